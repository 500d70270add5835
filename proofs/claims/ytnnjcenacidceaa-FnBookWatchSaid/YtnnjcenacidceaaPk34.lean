import Derived.Test.YtnnjcenacidceaaPk29
import Derived.Test.YtnnjcenacidceaaPk02
import Derived.Test.YtnnjcenacidceaaPk12
import Derived.Deep.MidRow
import Derived.WalkKit
import Derived.LaidEql
import Derived.Stop.Asserts
import Derived.RowKitTokens
import Derived.Test.YtnnjcenacidceaaPk18
import Derived.Test.YtnnjcenacidceaaPk30
set_option maxRecDepth 100000
set_option maxHeartbeats 4000000
namespace Go.Proofs.Ytnnjcenacidceaa
open Go.RowKit Go.Proofs.Try
theorem WV (x:Wt):(O5 x).size=8+x.kind.size+x.name.size+(Es x.ver).size:=by have h:=congrArg List.length (Mq [⟨#[119,97,110,116]⟩,x.kind,x.name,Es x.ver]);have e:(O5 x).size=(O5 x).data.toList.length:=Zc;rw[e];unfold O5;rw[h];simp[OK,Lib.join];omega
theorem W6 (x:Wr):(OF x).size=12+(Es x.op).size+x.kind.size+x.name.size+(Es x.seen).size+(VC x.text).length+x.hold.size:=by have h:=congrArg List.length (Mq [⟨#[119,114,105,116,101]⟩,Es x.op,x.kind,x.name,Es x.seen,⟨(VC x.text).toArray⟩,x.hold]);have e:(OF x).size=(OF x).data.toList.length:=Zc;rw[e];unfold OF;rw[h];simp[OK,Lib.join];omega
theorem Rt (n:Int)(h0:0<=n)(h1:n<=9223372036854775807)(w:World):Calls prog 93 #[.i n] w λe w'=>e=.returned (.s (Es n))/\Below w.1.size w w':=by have h:=Xe n.toNat Za w;rw[show((n.toNat:Nat):Int)=n by omega]at h;exact h
def jX (b:Nat)(s:ByteArray)(x:Wt)(_W:World)(i:Nat)(v:Value)(_X:World):Prop:=match i with
 |0=>v=.s s
 |1=>v=.s (s++(⟨#[119,97,110,116,32]⟩:ByteArray))
 |2=>v=.p b 0
 |3=>v=.s x.kind
 |4=>v=.s ((s++(⟨#[119,97,110,116,32]⟩:ByteArray))++x.kind)
 |5=>v=.s (((s++(⟨#[119,97,110,116,32]⟩:ByteArray))++x.kind)++(⟨#[32]⟩:ByteArray))
 |6=>v=.p b 1
 |7=>v=.s x.name
 |8=>v=.s ((((s++(⟨#[119,97,110,116,32]⟩:ByteArray))++x.kind)++(⟨#[32]⟩:ByteArray))++x.name)
 |9=>v=.s (((((s++(⟨#[119,97,110,116,32]⟩:ByteArray))++x.kind)++(⟨#[32]⟩:ByteArray))++x.name)++(⟨#[32]⟩:ByteArray))
 |10=>v=.p b 2
 |11=>v=.i x.ver
 |12=>v=.s (Es x.ver)
 |13=>v=.s ((((((s++(⟨#[119,97,110,116,32]⟩:ByteArray))++x.kind)++(⟨#[32]⟩:ByteArray))++x.name)++(⟨#[32]⟩:ByteArray))++Es x.ver)
 |14=>v=.s (((((((s++(⟨#[119,97,110,116,32]⟩:ByteArray))++x.kind)++(⟨#[32]⟩:ByteArray))++x.name)++(⟨#[32]⟩:ByteArray))++Es x.ver)++(⟨#[10]⟩:ByteArray))
 |_=>True
theorem aR{P:Prop}(h:P:=by have e13:t 13=_:=hg 13 (AQ rfl);have h:=hK _ X rfl EF;refine Ag rfl rfl ?_;clear hK hg;go_simp;rw[if_neg Za,AI];go_simp;simpa[Av,e13]using h):P:=h
theorem aW{P:Prop}(h:P:=by have e0:t 0=_:=hg 0 (AQ rfl);have h:=hK _ X rfl EF;refine Ag rfl rfl ?_;clear hK hg;go_simp;rw[if_neg Za,AI];go_simp;simpa[Av,e0]using h):P:=h
theorem qP{p0 p1 p2 p4 p6 p7 p8 p9 DX DK DV DF C9 CV CU C6 C8 CZ Df C7 C4 CY Ej Em Er Eo En Ei Eh Ds DU DW DI DG D7 D4 D3 D8 D1 D0 D2 D5 DY EA Ey Ew Ex Ez El Ep DM Fk Fg Fo Fm Fp Fl Fq Ff Fj GR GU GT Fi Fh FK FA FM GZ KR KF KD KC KG KE GS GV G4 G7 G3 G5 G6 KH Cp Cu Cn Ci Cj Cg Ck Cm Co:Value}{mk:(Nat->Value)->Array Value}(t0:Nat->Value)(b:Nat)(s:ByteArray)(x:Wt)(W:World)(hb0:b<W.1.size)(hc0:W.cell? ⟨b,0,none⟩=some (.s x.kind))(hc1:W.cell? ⟨b,1,none⟩=some (.s x.name))(hc2:W.cell? ⟨b,2,none⟩=some (.i x.ver))(hv0:0<=x.ver)(hv1:x.ver<=9223372036854775807)(hs:(s.size:Int)<=1099511627776)(hk:(x.kind.size:Int)<=1048576)(hn:(x.name.size:Int)<=1048576)(hz:((Es x.ver).size:Int)<=1099511627776)(hmk:mk=λt=>#[p0,p1,p2,.s s,p4,.p b 0,p6,p7,p8,p9,DX,DK,DV,DF,C9,CV,CU,C6,C8,CZ,Df,C7,C4,CY,t 0,t 1,t 2,t 3,t 4,t 5,t 6,t 7,t 8,t 9,t 10,t 11,t 12,t 13,t 14,Ej,Em,Er,Eo,En,Ei,Eh,Ds,DU,DW,DI,DG,D7,D4,D3,D8,D1,D0,D2,D5,DY,EA,Ey,Ew,Ex,Ez,El,Ep,DM,Fk,Fg,Fo,Fm,Fp,Fl,Fq,Ff,Fj,GR,GU,GT,Fi,Fh,FK,FA,FM,GZ,KR,KF,KD,KC,KG,KE,GS,GV,G4,G7,G3,G5,G6,KH,Cp,Cu,Cn,Ci,Cj,Cg,Ck,Cm,Co])(Q:Exit->Act->World->Prop)(hQ:∀(t:Nat->Value) X,Below W.1.size W X->Q .normal ⟨#[p0,p1,p2,.s (s++O5 x),p4,.p b 0,p6,p7,p8,p9,DX,DK,DV,DF,C9,CV,CU,C6,C8,CZ,Df,C7,C4,CY,t 0,t 1,t 2,t 3,t 4,t 5,t 6,t 7,t 8,t 9,t 10,t 11,t 12,t 13,t 14,Ej,Em,Er,Eo,En,Ei,Eh,Ds,DU,DW,DI,DG,D7,D4,D3,D8,D1,D0,D2,D5,DY,EA,Ey,Ew,Ex,Ez,El,Ep,DM,Fk,Fg,Fo,Fm,Fp,Fl,Fq,Ff,Fj,GR,GU,GT,Fi,Fh,FK,FA,FM,GZ,KR,KF,KD,KC,KG,KE,GS,GV,G4,G7,G3,G5,G6,KH,Cp,Cu,Cn,Ci,Cj,Cg,Ck,Cm,Co],[]⟩ X):Code.wp prog (rg Try.f82 6) Q ⟨mk t0,[]⟩ W:=by
 refine QI Ze 15 mk t0 (jX b s x W) (λa X=>∃(t:Nat->Value),a=⟨#[p0,p1,p2,.s (s++O5 x),p4,.p b 0,p6,p7,p8,p9,DX,DK,DV,DF,C9,CV,CU,C6,C8,CZ,Df,C7,C4,CY,t 0,t 1,t 2,t 3,t 4,t 5,t 6,t 7,t 8,t 9,t 10,t 11,t 12,t 13,t 14,Ej,Em,Er,Eo,En,Ei,Eh,Ds,DU,DW,DI,DG,D7,D4,D3,D8,D1,D0,D2,D5,DY,EA,Ey,Ew,Ex,Ez,El,Ep,DM,Fk,Fg,Fo,Fm,Fp,Fl,Fq,Ff,Fj,GR,GU,GT,Fi,Fh,FK,FA,FM,GZ,KR,KF,KD,KC,KG,KE,GS,GV,G4,G7,G3,G5,G6,KH,Cp,Cu,Cn,Ci,Cj,Cg,Ck,Cm,Co],[]⟩/\Below W.1.size W X) Ze Ze Ze ?_ rfl ?_ ?_ ?_;all_goals subst hmk
 .exact λ_ _ _ _ _ h _=>h
 .intro i hi t X K hb hg hK;rcases(show i=0\/i=1\/i=2\/i=3\/i=4\/i=5\/i=6\/i=7\/i=8\/i=9\/i=10\/i=11\/i=12\/i=13\/i=14 by omega)with rfl|rfl|rfl|rfl|rfl|rfl|rfl|rfl|rfl|rfl|rfl|rfl|rfl|rfl|rfl;.exact sg
  .exact aW
  .exact sg
  .have ea:t 2=_:=hg 2 (AQ rfl);have c0:=(hb.cell (p:=⟨b,0,none⟩) hb0).trans hc0;exact sg
  .have e1:t 1=_:=hg 1 (AQ rfl);have e3:t 3=_:=hg 3 (AQ rfl);have h:=hK _ X rfl EF;refine Ag rfl rfl ?_;clear hK hg;go_simp;rw[if_neg Za,AI];go_simp;simpa[Av,e1,e3]using h
  .have e4:t 4=_:=hg 4 (AQ rfl);have h:=hK _ X rfl EF;refine Ag rfl rfl ?_;clear hK hg;go_simp;rw[if_neg Za,AI];go_simp;simpa[Av,e4]using h
  .exact sg
  .have ea:t 6=_:=hg 6 (AQ rfl);have c1:=(hb.cell (p:=⟨b,1,none⟩) hb0).trans hc1;exact sg
  .have e5:t 5=_:=hg 5 (AQ rfl);have e7:t 7=_:=hg 7 (AQ rfl);have h:=hK _ X rfl EF;refine Ag rfl rfl ?_;clear hK hg;go_simp;rw[if_neg Za,AI];go_simp;simpa[Av,e5,e7]using h
  .have e8:t 8=_:=hg 8 (AQ rfl);have h:=hK _ X rfl EF;refine Ag rfl rfl ?_;clear hK hg;go_simp;rw[if_neg Za,AI];go_simp;simpa[Av,e8]using h
  .exact sg
  .have ea:t 10=_:=hg 10 (AQ rfl);have c2:=(hb.cell (p:=⟨b,2,none⟩) hb0).trans hc2;exact sg
  .have e11:t 11=_:=hg 11 (AQ rfl);refine Ag rfl rfl ?_;have HK:=Ah hK;clear hK hg;go_simp;go_at_call 93;refine(Rt x.ver hv0 hv1 X).mono ?_;rintro r Y ⟨rfl,hbY⟩;have h:=HK _ Y rfl hbY;simpa[Av,e11]using h
  .have e9:t 9=_:=hg 9 (AQ rfl);have e12:t 12=_:=hg 12 (AQ rfl);have h:=hK _ X rfl EF;refine Ag rfl rfl ?_;clear hK hg;go_simp;rw[if_neg Za,AI];go_simp;simpa[Av,e9,e12]using h
  .exact aR
 .intro t X K hb hg hK;have e14:t 14=_:=hg 14 Za;have h:=hK ⟨#[p0,p1,p2,.s (s++O5 x),p4,.p b 0,p6,p7,p8,p9,DX,DK,DV,DF,C9,CV,CU,C6,C8,CZ,Df,C7,C4,CY,t 0,t 1,t 2,t 3,t 4,t 5,t 6,t 7,t 8,t 9,t 10,t 11,t 12,t 13,t 14,Ej,Em,Er,Eo,En,Ei,Eh,Ds,DU,DW,DI,DG,D7,D4,D3,D8,D1,D0,D2,D5,DY,EA,Ey,Ew,Ex,Ez,El,Ep,DM,Fk,Fg,Fo,Fm,Fp,Fl,Fq,Ff,Fj,GR,GU,GT,Fi,Fh,FK,FA,FM,GZ,KR,KF,KD,KC,KG,KE,GS,GV,G4,G7,G3,G5,G6,KH,Cp,Cu,Cn,Ci,Cj,Cg,Ck,Cm,Co],[]⟩ X ⟨t,rfl,hb⟩;rw[O5,<-YK]at h;refine Ag rfl rfl ?_;clear hK hg;go_simp;simpa[e14]using h
 .rintro a X ⟨t,rfl,hb⟩;exact hQ t X hb
def fL (b:Nat)(s:ByteArray)(x:Wr)(_W:World)(i:Nat)(v:Value)(_X:World):Prop:=match i with
 |0=>v=.s s
 |1=>v=.s (s++(⟨#[119,114,105,116,101,32]⟩:ByteArray))
 |2=>v=.p b 0
 |3=>v=.i x.op
 |4=>v=.s (Es x.op)
 |5=>v=.s ((s++(⟨#[119,114,105,116,101,32]⟩:ByteArray))++Es x.op)
 |6=>v=.s (((s++(⟨#[119,114,105,116,101,32]⟩:ByteArray))++Es x.op)++(⟨#[32]⟩:ByteArray))
 |7=>v=.p b 1
 |8=>v=.s x.kind
 |9=>v=.s ((((s++(⟨#[119,114,105,116,101,32]⟩:ByteArray))++Es x.op)++(⟨#[32]⟩:ByteArray))++x.kind)
 |10=>v=.s (((((s++(⟨#[119,114,105,116,101,32]⟩:ByteArray))++Es x.op)++(⟨#[32]⟩:ByteArray))++x.kind)++(⟨#[32]⟩:ByteArray))
 |11=>v=.p b 2
 |12=>v=.s x.name
 |13=>v=.s ((((((s++(⟨#[119,114,105,116,101,32]⟩:ByteArray))++Es x.op)++(⟨#[32]⟩:ByteArray))++x.kind)++(⟨#[32]⟩:ByteArray))++x.name)
 |14=>v=.s (((((((s++(⟨#[119,114,105,116,101,32]⟩:ByteArray))++Es x.op)++(⟨#[32]⟩:ByteArray))++x.kind)++(⟨#[32]⟩:ByteArray))++x.name)++(⟨#[32]⟩:ByteArray))
 |15=>v=.p b 3
 |16=>v=.i x.seen
 |17=>v=.s (Es x.seen)
 |18=>v=.s ((((((((s++(⟨#[119,114,105,116,101,32]⟩:ByteArray))++Es x.op)++(⟨#[32]⟩:ByteArray))++x.kind)++(⟨#[32]⟩:ByteArray))++x.name)++(⟨#[32]⟩:ByteArray))++Es x.seen)
 |19=>v=.s (((((((((s++(⟨#[119,114,105,116,101,32]⟩:ByteArray))++Es x.op)++(⟨#[32]⟩:ByteArray))++x.kind)++(⟨#[32]⟩:ByteArray))++x.name)++(⟨#[32]⟩:ByteArray))++Es x.seen)++(⟨#[32]⟩:ByteArray))
 |20=>v=.p b 4
 |21=>v=.s x.text
 |22=>v=.s (⟨(VC x.text).toArray⟩:ByteArray)
 |23=>v=.s ((((((((((s++(⟨#[119,114,105,116,101,32]⟩:ByteArray))++Es x.op)++(⟨#[32]⟩:ByteArray))++x.kind)++(⟨#[32]⟩:ByteArray))++x.name)++(⟨#[32]⟩:ByteArray))++Es x.seen)++(⟨#[32]⟩:ByteArray))++(⟨(VC x.text).toArray⟩:ByteArray))
 |24=>v=.s (((((((((((s++(⟨#[119,114,105,116,101,32]⟩:ByteArray))++Es x.op)++(⟨#[32]⟩:ByteArray))++x.kind)++(⟨#[32]⟩:ByteArray))++x.name)++(⟨#[32]⟩:ByteArray))++Es x.seen)++(⟨#[32]⟩:ByteArray))++(⟨(VC x.text).toArray⟩:ByteArray))++(⟨#[32]⟩:ByteArray))
 |25=>v=.p b 5
 |26=>v=.s x.hold
 |27=>v=.s ((((((((((((s++(⟨#[119,114,105,116,101,32]⟩:ByteArray))++Es x.op)++(⟨#[32]⟩:ByteArray))++x.kind)++(⟨#[32]⟩:ByteArray))++x.name)++(⟨#[32]⟩:ByteArray))++Es x.seen)++(⟨#[32]⟩:ByteArray))++(⟨(VC x.text).toArray⟩:ByteArray))++(⟨#[32]⟩:ByteArray))++x.hold)
 |28=>v=.s (((((((((((((s++(⟨#[119,114,105,116,101,32]⟩:ByteArray))++Es x.op)++(⟨#[32]⟩:ByteArray))++x.kind)++(⟨#[32]⟩:ByteArray))++x.name)++(⟨#[32]⟩:ByteArray))++Es x.seen)++(⟨#[32]⟩:ByteArray))++(⟨(VC x.text).toArray⟩:ByteArray))++(⟨#[32]⟩:ByteArray))++x.hold)++(⟨#[10]⟩:ByteArray))
 |_=>True
theorem kX{p0 p1 p2 p4 p5 p6 p8 p9 DX DK DV DF C9 CV CU C6 C8 CZ Df C7 C4 CY Dw Di Dj Dg Dh Dy Dx DC DB DA Dz DH Ek Eu EE Ej Em Er Eo En Ei Eh Ds DU DW DI DG Fi Fh FK FA FM GZ KR KF KD KC KG KE GS GV G4 G7 G3 G5 G6 KH Cp Cu Cn Ci Cj Cg Ck Cm Co:Value}{mk:(Nat->Value)->Array Value}(t0:Nat->Value)(b:Nat)(s:ByteArray)(x:Wr)(W:World)(hb0:b<W.1.size)(hc0:W.cell? ⟨b,0,none⟩=some (.i x.op))(hc1:W.cell? ⟨b,1,none⟩=some (.s x.kind))(hc2:W.cell? ⟨b,2,none⟩=some (.s x.name))(hc3:W.cell? ⟨b,3,none⟩=some (.i x.seen))(hc4:W.cell? ⟨b,4,none⟩=some (.s x.text))(hc5:W.cell? ⟨b,5,none⟩=some (.s x.hold))(ho0:0<=x.op)(ho1:x.op<=9223372036854775807)(hv0:0<=x.seen)(hv1:x.seen<=9223372036854775807)(hx:(x.text.size:Int)<=1099511627776)(hs:(s.size:Int)<=1099511627776)(hz1:((Es x.op).size:Int)<=1099511627776)(hz2:(x.kind.size:Int)<=1099511627776)(hz3:(x.name.size:Int)<=1099511627776)(hz4:((Es x.seen).size:Int)<=1099511627776)(hz5:((VC x.text).length:Int)<=1099511627776)(hz6:(x.hold.size:Int)<=1099511627776)(hmk:mk=λt=>#[p0,p1,p2,.s s,p4,p5,p6,.p b 0,p8,p9,DX,DK,DV,DF,C9,CV,CU,C6,C8,CZ,Df,C7,C4,CY,Dw,Di,Dj,Dg,Dh,Dy,Dx,DC,DB,DA,Dz,DH,Ek,Eu,EE,Ej,Em,Er,Eo,En,Ei,Eh,Ds,DU,DW,DI,DG,t 0,t 1,t 2,t 3,t 4,t 5,t 6,t 7,t 8,t 9,t 10,t 11,t 12,t 13,t 14,t 15,t 16,t 17,t 18,t 19,t 20,t 21,t 22,t 23,t 24,t 25,t 26,t 27,t 28,Fi,Fh,FK,FA,FM,GZ,KR,KF,KD,KC,KG,KE,GS,GV,G4,G7,G3,G5,G6,KH,Cp,Cu,Cn,Ci,Cj,Cg,Ck,Cm,Co])(Q:Exit->Act->World->Prop)(hQ:∀(t:Nat->Value) X,Below W.1.size W X->Q .normal ⟨#[p0,p1,p2,.s (s++OF x),p4,p5,p6,.p b 0,p8,p9,DX,DK,DV,DF,C9,CV,CU,C6,C8,CZ,Df,C7,C4,CY,Dw,Di,Dj,Dg,Dh,Dy,Dx,DC,DB,DA,Dz,DH,Ek,Eu,EE,Ej,Em,Er,Eo,En,Ei,Eh,Ds,DU,DW,DI,DG,t 0,t 1,t 2,t 3,t 4,t 5,t 6,t 7,t 8,t 9,t 10,t 11,t 12,t 13,t 14,t 15,t 16,t 17,t 18,t 19,t 20,t 21,t 22,t 23,t 24,t 25,t 26,t 27,t 28,Fi,Fh,FK,FA,FM,GZ,KR,KF,KD,KC,KG,KE,GS,GV,G4,G7,G3,G5,G6,KH,Cp,Cu,Cn,Ci,Cj,Cg,Ck,Cm,Co],[]⟩ X):Code.wp prog (rg Try.f82 11) Q ⟨mk t0,[]⟩ W:=by
 refine QI Ze 29 mk t0 (fL b s x W) (λa X=>∃(t:Nat->Value),a=⟨#[p0,p1,p2,.s (s++OF x),p4,p5,p6,.p b 0,p8,p9,DX,DK,DV,DF,C9,CV,CU,C6,C8,CZ,Df,C7,C4,CY,Dw,Di,Dj,Dg,Dh,Dy,Dx,DC,DB,DA,Dz,DH,Ek,Eu,EE,Ej,Em,Er,Eo,En,Ei,Eh,Ds,DU,DW,DI,DG,t 0,t 1,t 2,t 3,t 4,t 5,t 6,t 7,t 8,t 9,t 10,t 11,t 12,t 13,t 14,t 15,t 16,t 17,t 18,t 19,t 20,t 21,t 22,t 23,t 24,t 25,t 26,t 27,t 28,Fi,Fh,FK,FA,FM,GZ,KR,KF,KD,KC,KG,KE,GS,GV,G4,G7,G3,G5,G6,KH,Cp,Cu,Cn,Ci,Cj,Cg,Ck,Cm,Co],[]⟩/\Below W.1.size W X) Ze Ze Ze ?_ rfl ?_ ?_ ?_;all_goals subst hmk
 .exact λ_ _ _ _ _ h _=>h
 .intro i hi t X K hb hg hK;rcases(show i=0\/i=1\/i=2\/i=3\/i=4\/i=5\/i=6\/i=7\/i=8\/i=9\/i=10\/i=11\/i=12\/i=13\/i=14\/i=15\/i=16\/i=17\/i=18\/i=19\/i=20\/i=21\/i=22\/i=23\/i=24\/i=25\/i=26\/i=27\/i=28 by omega)with rfl|rfl|rfl|rfl|rfl|rfl|rfl|rfl|rfl|rfl|rfl|rfl|rfl|rfl|rfl|rfl|rfl|rfl|rfl|rfl|rfl|rfl|rfl|rfl|rfl|rfl|rfl|rfl|rfl;.exact sg
  .exact aW
  .exact sg
  .have ea:t 2=_:=hg 2 (AQ rfl);have c0:=(hb.cell (p:=⟨b,0,none⟩) hb0).trans hc0;exact sg
  .have e3:t 3=_:=hg 3 (AQ rfl);refine Ag rfl rfl ?_;have HK:=Ah hK;clear hK hg;go_simp;go_at_call 93;refine(Rt x.op ho0 ho1 X).mono ?_;rintro r Y ⟨rfl,hbY⟩;have h:=HK _ Y rfl hbY;simpa[Av,e3]using h
  .have e1:t 1=_:=hg 1 (AQ rfl);have e4:t 4=_:=hg 4 (AQ rfl);have h:=hK _ X rfl EF;refine Ag rfl rfl ?_;clear hK hg;go_simp;rw[if_neg Za,AI];go_simp;simpa[Av,e1,e4]using h
  .have e5:t 5=_:=hg 5 (AQ rfl);have h:=hK _ X rfl EF;refine Ag rfl rfl ?_;clear hK hg;go_simp;rw[if_neg Za,AI];go_simp;simpa[Av,e5]using h
  .exact sg
  .have ea:t 7=_:=hg 7 (AQ rfl);have c1:=(hb.cell (p:=⟨b,1,none⟩) hb0).trans hc1;exact sg
  .have e6:t 6=_:=hg 6 (AQ rfl);have e8:t 8=_:=hg 8 (AQ rfl);have h:=hK _ X rfl EF;refine Ag rfl rfl ?_;clear hK hg;go_simp;rw[if_neg Za,AI];go_simp;simpa[Av,e6,e8]using h
  .have e9:t 9=_:=hg 9 (AQ rfl);have h:=hK _ X rfl EF;refine Ag rfl rfl ?_;clear hK hg;go_simp;rw[if_neg Za,AI];go_simp;simpa[Av,e9]using h
  .exact sg
  .have ea:t 11=_:=hg 11 (AQ rfl);have c2:=(hb.cell (p:=⟨b,2,none⟩) hb0).trans hc2;exact sg
  .have e10:t 10=_:=hg 10 (AQ rfl);have e12:t 12=_:=hg 12 (AQ rfl);have h:=hK _ X rfl EF;refine Ag rfl rfl ?_;clear hK hg;go_simp;rw[if_neg Za,AI];go_simp;simpa[Av,e10,e12]using h
  .exact aR
  .exact sg
  .have ea:t 15=_:=hg 15 (AQ rfl);have c3:=(hb.cell (p:=⟨b,3,none⟩) hb0).trans hc3;exact sg
  .have e16:t 16=_:=hg 16 (AQ rfl);refine Ag rfl rfl ?_;have HK:=Ah hK;clear hK hg;go_simp;go_at_call 93;refine(Rt x.seen hv0 hv1 X).mono ?_;rintro r Y ⟨rfl,hbY⟩;have h:=HK _ Y rfl hbY;simpa[Av,e16]using h
  .have e14:t 14=_:=hg 14 (AQ rfl);have e17:t 17=_:=hg 17 (AQ rfl);have h:=hK _ X rfl EF;refine Ag rfl rfl ?_;clear hK hg;go_simp;rw[if_neg Za,AI];go_simp;simpa[Av,e14,e17]using h
  .have e18:t 18=_:=hg 18 (AQ rfl);have h:=hK _ X rfl EF;refine Ag rfl rfl ?_;clear hK hg;go_simp;rw[if_neg Za,AI];go_simp;simpa[Av,e18]using h
  .exact sg
  .have ea:t 20=_:=hg 20 (AQ rfl);have c4:=(hb.cell (p:=⟨b,4,none⟩) hb0).trans hc4;exact sg
  .have e21:t 21=_:=hg 21 (AQ rfl);refine Ag rfl rfl ?_;have HK:=Ah hK;clear hK hg;go_simp;go_at_call 94;refine(YJ x.text X hx).mono ?_;rintro r Y ⟨rfl,hbY⟩;have h:=HK _ Y rfl hbY;simpa[Av,e21]using h
  .have e19:t 19=_:=hg 19 (AQ rfl);have e22:t 22=_:=hg 22 (AQ rfl);have h:=hK _ X rfl EF;refine Ag rfl rfl ?_;clear hK hg;go_simp;rw[if_neg Za,AI];go_simp;simpa[Av,e19,e22]using h
  .have e23:t 23=_:=hg 23 (AQ rfl);have h:=hK _ X rfl EF;refine Ag rfl rfl ?_;clear hK hg;go_simp;rw[if_neg Za,AI];go_simp;simpa[Av,e23]using h
  .exact sg
  .have ea:t 25=_:=hg 25 (AQ rfl);have c5:=(hb.cell (p:=⟨b,5,none⟩) hb0).trans hc5;exact sg
  .have e24:t 24=_:=hg 24 (AQ rfl);have e26:t 26=_:=hg 26 (AQ rfl);have h:=hK _ X rfl EF;refine Ag rfl rfl ?_;clear hK hg;go_simp;rw[if_neg Za,AI];go_simp;simpa[Av,e24,e26]using h
  .have e27:t 27=_:=hg 27 (AQ rfl);have h:=hK _ X rfl EF;refine Ag rfl rfl ?_;clear hK hg;go_simp;rw[if_neg Za,AI];go_simp;simpa[Av,e27]using h
 .intro t X K hb hg hK;have e28:t 28=_:=hg 28 Za;have h:=hK ⟨#[p0,p1,p2,.s (s++OF x),p4,p5,p6,.p b 0,p8,p9,DX,DK,DV,DF,C9,CV,CU,C6,C8,CZ,Df,C7,C4,CY,Dw,Di,Dj,Dg,Dh,Dy,Dx,DC,DB,DA,Dz,DH,Ek,Eu,EE,Ej,Em,Er,Eo,En,Ei,Eh,Ds,DU,DW,DI,DG,t 0,t 1,t 2,t 3,t 4,t 5,t 6,t 7,t 8,t 9,t 10,t 11,t 12,t 13,t 14,t 15,t 16,t 17,t 18,t 19,t 20,t 21,t 22,t 23,t 24,t 25,t 26,t 27,t 28,Fi,Fh,FK,FA,FM,GZ,KR,KF,KD,KC,KG,KE,GS,GV,G4,G7,G3,G5,G6,KH,Cp,Cu,Cn,Ci,Cj,Cg,Ck,Cm,Co],[]⟩ X ⟨t,rfl,hb⟩;rw[OF,<-V3]at h;refine Ag rfl rfl ?_;clear hK hg;go_simp;simpa[e28]using h
 .rintro a X ⟨t,rfl,hb⟩;exact hQ t X hb
structure iK (u:Bu):Prop where
 w:∀i,i<u.wn->((u.ws i).kind.size:Int)<=1048576/\((u.ws i).name.size:Int)<=1048576/\0<=(u.ws i).ver/\(u.ws i).ver<=9223372036854775807/\((OK [⟨#[119,97,110,116]⟩,(u.ws i).kind,(u.ws i).name,Es (u.ws i).ver]).length:Int)<=1000000000000/\((O5 (u.ws i)).size:Int)<=1099511627776
 r:∀i,i<u.rn->0<=(u.rs i).op/\(u.rs i).op<=9223372036854775807/\0<=(u.rs i).seen/\(u.rs i).seen<=9223372036854775807/\((u.rs i).text.size:Int)<=1099511627776/\((OK [⟨#[119,114,105,116,101]⟩,Es (u.rs i).op,(u.rs i).kind,(u.rs i).name,Es (u.rs i).seen,⟨(VC (u.rs i).text).toArray⟩,(u.rs i).hold]).length:Int)<=1000000000000/\((OF (u.rs i)).size:Int)<=1099511627776
def pP (x:Bu):Prop:=(∀k,k<=x.wn->((XH x k).size:Int)<=1099511627776)/\(∀k,k<=x.rn->((YL x k).size:Int)<=1099511627776)
theorem ND (x:Bu)(ua ub:OA)(d1 d2:Nat)(w:World)(lo hi:Nat)(hhi:hi<=w.1.size)(hu:Oe x)(hp:iK x)(hx:pP x)(hc:Lt w lo hi x ua ub):Calls prog 82 #[.agg (vU x ua ub d1 d2)] w λe w'=>e=.returned (.s (Ow x))/\Below w.1.size w w':=by
 obtain⟨i0,hi0,hz0,hz1,hz2⟩:=info_parts PL;have hw:=hu.w;have hr:=hu.r;have HP:=Ah hp;have HC:=Ah hc;have HX:=Ah hx;clear hu hc hp hx;have hq:K3 (w.alloc (.cells (vU x ua ub d1 d2) 106)) w.1.size (sM x ua ub d1 d2):=λj hj=>by rw[Ak];rcases(show j=0\/j=1 by simp at hj;omega)with rfl|rfl<;>rfl
 have hb:=An w (.cells (vU x ua ub d1 d2) 106);have hz:w.1.size<(w.alloc (.cells (vU x ua ub d1 d2) 106)).1.size:=Zc;go_enter func82,ntmps82;go_upto_region 1 with fail;generalize(w.alloc (.cells (vU x ua ub d1 d2) 106))=W1 at hq hb hz⊢;have HQ:=Ah hq;have HB:=Ah hb;clear hq hb;go_wp2;go_loopw[3,4](λv i wr=>∃k:Nat,k<=x.wn/\i=.i k/\v=.s (XH x k)/\w.1.size<wr.1.size/\Hid (K3 wr w.1.size (sM x ua ub d1 d2))/\Hid (Below w.1.size w wr))(λ_ i _=>x.wn-(intOf i).toNat);case atStart=>exact⟨0,At _,rfl,rfl,hz,HQ,HB⟩
 case round=>
  clear HQ HB hz;obtain⟨k,hk,rfl,rfl,hz,HQ,HB⟩:=hrel;have q0:=HQ.out 0 Zc;simp only[AR,Aa]at q0;by_cases hkn:k<x.wn;.obtain⟨b,off,hu1,hlo,hbh,hcx⟩:=HC.wt k hkn;subst hu1;obtain⟨e0,e1,e2⟩:=hcx.below HB Za;clear hcx;have zb:=HB.size;obtain⟨f0,f1,f2,f3,f4,f5⟩:=HP.w k hkn;have fs:=HX.out.1 k hk;have fz:=WV (x.ws k);go_wp2;refine qP (λi=>[u24,u25,u26,u27,u28,u29,u30,u31,u32,u33,u34,u35,u36,u37,u38].getD i undef) wr.1.size (XH x k) (x.ws k) (wr.alloc (.cells #[.s (x.ws k).kind,.s (x.ws k).name,.i (x.ws k).ver] 124)) Zc kQ kQ kQ f2 f3 fs f0 f1 Za rfl _ ?_;intro t X hbX;have zX:=hbX.size;have wH:=Ah ((HQ.below AG hz).below hbX Zd);have Vv:=Ah ((HB.trans ((An wr (.cells #[.s (x.ws k).kind,.s (x.ws k).name,.i (x.ws k).ver] 124)).mono zb)).trans (hbX.mono Zd));clear q0;go_wp2;exact⟨⟨k+1,Za,by go_num,rfl,by simp at zX;omega,wH,Vv⟩,by simp[intOf];omega⟩
  .have hkw:k=x.wn:=Za;subst hkw;go_wp2;clear q0;go_loopw[3,6](λv i wr=>∃k:Nat,k<=x.rn/\i=.i k/\v=.s (YL x k)/\w.1.size<wr.1.size/\Hid (K3 wr w.1.size (sM x ua ub d1 d2))/\Hid (Below w.1.size w wr))(λ_ i _=>x.rn-(intOf i).toNat);case atStart=>exact⟨0,At _,rfl,rfl,hz,HQ,HB⟩
   case round=>
    clear HQ HB hz;obtain⟨k,hk,rfl,rfl,hz,HQ,HB⟩:=hrel;have q1:=HQ.out 1 Zc;simp only[AR,Aa,Ab]at q1;by_cases hkn:k<x.rn;.obtain⟨b,off,hu1,hlo,hbh,hcx⟩:=HC.wr k hkn;subst hu1;obtain⟨e0,e1,e2,e3,e4,e5⟩:=hcx.below HB Za;clear hcx;have zb:=HB.size;obtain⟨f0,f1,f2,f3,f4,f5,f6⟩:=HP.r k hkn;have fs:=HX.out.2 k hk;have fz:=W6 (x.rs k);go_wp2;refine kX (λi=>[u51,u52,u53,u54,u55,u56,u57,u58,u59,u60,u61,u62,u63,u64,u65,u66,u67,u68,u69,u70,u71,u72,u73,u74,u75,u76,u77,u78,u79].getD i undef) wr.1.size (YL x k) (x.rs k) (wr.alloc (.cells (vW (x.rs k)) 114)) Zc kQ kQ kQ kQ kQ kQ f0 f1 f2 f3 f4 fs Za Za Za Za Za Za rfl _ ?_;intro t X hbX;have zX:=hbX.size;have wH:=Ah ((HQ.below AG hz).below hbX Zd);have Vv:=Ah ((HB.trans ((An wr (.cells (vW (x.rs k)) 114)).mono zb)).trans (hbX.mono Zd));clear q1;go_wp2;exact⟨⟨k+1,Za,by go_num,rfl,by simp at zX;omega,wH,Vv⟩,by simp[intOf];omega⟩
    .have hkw:k=x.rn:=Za;subst hkw;have bd:=oS x x.rn;have HV:=Ah (show Ow x=⟨(Nl (oO x x.rn)).toArray⟩from rfl);have HS:=Ah (fV x x.rn);have fs:=HX.out.2 _ hk;clear hw hr;generalize YL x x.rn=s at HS fs⊢;generalize oO x x.rn=y at HS HV bd;go_wp2;clear q1;go_loopw[8,9](λv i wr'=>∃k:Nat,k<=s.size/\i=.i k/\v=.int .u64 (Ps 14695981039346656037 (s.data.toList.take k))/\wr'=wr)(λ_ i _=>s.size-(intOf i).toNat);case atStart=>exact⟨0,At _,rfl,rfl,rfl⟩
     case round=>
      obtain⟨k,hk,rfl,rfl,rfl⟩:=hrel;by_cases hkn:k<s.size;.have STEP:=Ah (Yy 14695981039346656037 s k hkn);go_wp2;exact⟨⟨k+1,Za,by go_num,by rw[STEP.out];rfl,trivial⟩,by simp[intOf];omega⟩
      .have hks:k=s.size:=Za;subst hks;have HT:=Ah (show Ps 14695981039346656037 (s.data.toList.take s.size)=y by rw[HS.out,Fw Zc]);rw[HT.out];clear HS HT bd fs;go_wp2;go_loopw[10,11](λv i wr'=>∃m:Nat,m<=8/\i=.i (7-(m:Int))/\Hid (KT wr' w.1.size v ((Nl y).take m))/\Hid (Below w.1.size w wr'))(λ_ i _=>(intOf i+1).toNat);case atStart=>exact⟨0,At _,rfl,Ah (World.ownsRow_lit wr #[] 0 HB.size Zm rfl),Ah (HB.alloc HB.size _)⟩
       case round=>
        clear HB HQ hz;obtain⟨m,hm,rfl,PO,HB⟩:=hrel;by_cases hmn:m<8
        .have zb:=HB.size;rcases(show m=0\/m=1\/m=2\/m=3\/m=4\/m=5\/m=6\/m=7 by omega)with rfl|rfl|rfl|rfl|rfl|rfl|rfl|rfl
         .have hβ:y/72057594037927936%256=((NV y 7).toNat:Int):=by rw[MB];unfold Y5;simp
          have STEP:=Ah (show(Nl y).take 1=(Nl y).take 0++[NV y 7]from rfl);have hl:((Nl y).take 0).length=0:=rfl;obtain⟨L,hL⟩:∃L,(Nl y).take 0=L:=⟨_,rfl⟩;rw[hL]at PO hl STEP;generalize NV y 7=β at hβ STEP;have HO:=Ah (PO.alloc (.cells #[.int .u8 (β.toNat:Int)] 5));clear PO hL HV;go_wp2_with (at_builtin;go_must(refine wpList_append_own _ rfl _ _ 22 rfl w.1.size 5 i0 (.int .u8 0) 1 1 underlying22 hi0 hz0 hz1 hz2 rfl Zb _ _ _ rfl HO ⟨wr.1.size,0,none⟩ 1 1 (Lib.byteCells [β]) rfl rfl (EC wr _ 5) Zr Zm Za Zp ?_;intro v2 w2 hown2 hgrow2 _));have B2:=Ah (Fu (HB.alloc HB.size _) uK Zp HO hgrow2);have O2:KT w2 w.1.size v2 (L++[β]):=KT.app hown2;go_roundw;case rel=>exact⟨1,Za,by go_num,Ah nD,B2⟩
          case measure=>simp[intOf]
         .have hβ:y/281474976710656%256=((NV y 6).toNat:Int):=by rw[MB];unfold Y5;simp
          have STEP:=Ah (show(Nl y).take 2=(Nl y).take 1++[NV y 6]from rfl);have hl:((Nl y).take 1).length=1:=rfl;obtain⟨L,hL⟩:∃L,(Nl y).take 1=L:=⟨_,rfl⟩;rw[hL]at PO hl STEP;generalize NV y 6=β at hβ STEP;have HO:=Ah (PO.alloc (.cells #[.int .u8 (β.toNat:Int)] 5));clear PO hL HV;go_wp2_with (at_builtin;go_must(refine wpList_append_own _ rfl _ _ 22 rfl w.1.size 5 i0 (.int .u8 0) 1 1 underlying22 hi0 hz0 hz1 hz2 rfl Zb _ _ _ rfl HO ⟨wr.1.size,0,none⟩ 1 1 (Lib.byteCells [β]) rfl rfl (EC wr _ 5) Zr Zm Za Zp ?_;intro v2 w2 hown2 hgrow2 _));have B2:=Ah (Fu (HB.alloc HB.size _) uK Zp HO hgrow2);have O2:KT w2 w.1.size v2 (L++[β]):=KT.app hown2;go_roundw;case rel=>exact⟨2,Za,by go_num,Ah nD,B2⟩
          case measure=>simp[intOf]
         .have hβ:y/1099511627776%256=((NV y 5).toNat:Int):=by rw[MB];unfold Y5;simp
          have STEP:=Ah (show(Nl y).take 3=(Nl y).take 2++[NV y 5]from rfl);have hl:((Nl y).take 2).length=2:=rfl;obtain⟨L,hL⟩:∃L,(Nl y).take 2=L:=⟨_,rfl⟩;rw[hL]at PO hl STEP;generalize NV y 5=β at hβ STEP;have HO:=Ah (PO.alloc (.cells #[.int .u8 (β.toNat:Int)] 5));clear PO hL HV;go_wp2_with (at_builtin;go_must(refine wpList_append_own _ rfl _ _ 22 rfl w.1.size 5 i0 (.int .u8 0) 1 1 underlying22 hi0 hz0 hz1 hz2 rfl Zb _ _ _ rfl HO ⟨wr.1.size,0,none⟩ 1 1 (Lib.byteCells [β]) rfl rfl (EC wr _ 5) Zr Zm Za Zp ?_;intro v2 w2 hown2 hgrow2 _));have B2:=Ah (Fu (HB.alloc HB.size _) uK Zp HO hgrow2);have O2:KT w2 w.1.size v2 (L++[β]):=KT.app hown2;go_roundw;case rel=>exact⟨3,Za,by go_num,Ah nD,B2⟩
          case measure=>simp[intOf]
         .have hβ:y/4294967296%256=((NV y 4).toNat:Int):=by rw[MB];unfold Y5;simp
          have STEP:=Ah (show(Nl y).take 4=(Nl y).take 3++[NV y 4]from rfl);have hl:((Nl y).take 3).length=3:=rfl;obtain⟨L,hL⟩:∃L,(Nl y).take 3=L:=⟨_,rfl⟩;rw[hL]at PO hl STEP;generalize NV y 4=β at hβ STEP;have HO:=Ah (PO.alloc (.cells #[.int .u8 (β.toNat:Int)] 5));clear PO hL HV;go_wp2_with (at_builtin;go_must(refine wpList_append_own _ rfl _ _ 22 rfl w.1.size 5 i0 (.int .u8 0) 1 1 underlying22 hi0 hz0 hz1 hz2 rfl Zb _ _ _ rfl HO ⟨wr.1.size,0,none⟩ 1 1 (Lib.byteCells [β]) rfl rfl (EC wr _ 5) Zr Zm Za Zp ?_;intro v2 w2 hown2 hgrow2 _));have B2:=Ah (Fu (HB.alloc HB.size _) uK Zp HO hgrow2);have O2:KT w2 w.1.size v2 (L++[β]):=KT.app hown2;go_roundw;case rel=>exact⟨4,Za,by go_num,Ah nD,B2⟩
          case measure=>simp[intOf]
         .have hβ:y/16777216%256=((NV y 3).toNat:Int):=by rw[MB];unfold Y5;simp
          have STEP:=Ah (show(Nl y).take 5=(Nl y).take 4++[NV y 3]from rfl);have hl:((Nl y).take 4).length=4:=rfl;obtain⟨L,hL⟩:∃L,(Nl y).take 4=L:=⟨_,rfl⟩;rw[hL]at PO hl STEP;generalize NV y 3=β at hβ STEP;have HO:=Ah (PO.alloc (.cells #[.int .u8 (β.toNat:Int)] 5));clear PO hL HV;go_wp2_with (at_builtin;go_must(refine wpList_append_own _ rfl _ _ 22 rfl w.1.size 5 i0 (.int .u8 0) 1 1 underlying22 hi0 hz0 hz1 hz2 rfl Zb _ _ _ rfl HO ⟨wr.1.size,0,none⟩ 1 1 (Lib.byteCells [β]) rfl rfl (EC wr _ 5) Zr Zm Za Zp ?_;intro v2 w2 hown2 hgrow2 _));have B2:=Ah (Fu (HB.alloc HB.size _) uK Zp HO hgrow2);have O2:KT w2 w.1.size v2 (L++[β]):=KT.app hown2;go_roundw;case rel=>exact⟨5,Za,by go_num,Ah nD,B2⟩
          case measure=>simp[intOf]
         .have hβ:y/65536%256=((NV y 2).toNat:Int):=by rw[MB];unfold Y5;simp
          have STEP:=Ah (show(Nl y).take 6=(Nl y).take 5++[NV y 2]from rfl);have hl:((Nl y).take 5).length=5:=rfl;obtain⟨L,hL⟩:∃L,(Nl y).take 5=L:=⟨_,rfl⟩;rw[hL]at PO hl STEP;generalize NV y 2=β at hβ STEP;have HO:=Ah (PO.alloc (.cells #[.int .u8 (β.toNat:Int)] 5));clear PO hL HV;go_wp2_with (at_builtin;go_must(refine wpList_append_own _ rfl _ _ 22 rfl w.1.size 5 i0 (.int .u8 0) 1 1 underlying22 hi0 hz0 hz1 hz2 rfl Zb _ _ _ rfl HO ⟨wr.1.size,0,none⟩ 1 1 (Lib.byteCells [β]) rfl rfl (EC wr _ 5) Zr Zm Za Zp ?_;intro v2 w2 hown2 hgrow2 _));have B2:=Ah (Fu (HB.alloc HB.size _) uK Zp HO hgrow2);have O2:KT w2 w.1.size v2 (L++[β]):=KT.app hown2;go_roundw;case rel=>exact⟨6,Za,by go_num,Ah nD,B2⟩
          case measure=>simp[intOf]
         .have hβ:y/256%256=((NV y 1).toNat:Int):=by rw[MB];unfold Y5;simp
          have STEP:=Ah (show(Nl y).take 7=(Nl y).take 6++[NV y 1]from rfl);have hl:((Nl y).take 6).length=6:=rfl;obtain⟨L,hL⟩:∃L,(Nl y).take 6=L:=⟨_,rfl⟩;rw[hL]at PO hl STEP;generalize NV y 1=β at hβ STEP;have HO:=Ah (PO.alloc (.cells #[.int .u8 (β.toNat:Int)] 5));clear PO hL HV;go_wp2_with (at_builtin;go_must(refine wpList_append_own _ rfl _ _ 22 rfl w.1.size 5 i0 (.int .u8 0) 1 1 underlying22 hi0 hz0 hz1 hz2 rfl Zb _ _ _ rfl HO ⟨wr.1.size,0,none⟩ 1 1 (Lib.byteCells [β]) rfl rfl (EC wr _ 5) Zr Zm Za Zp ?_;intro v2 w2 hown2 hgrow2 _));have B2:=Ah (Fu (HB.alloc HB.size _) uK Zp HO hgrow2);have O2:KT w2 w.1.size v2 (L++[β]):=KT.app hown2;go_roundw;case rel=>exact⟨7,Za,by go_num,Ah nD,B2⟩
          case measure=>simp[intOf]
         .have hβ:y%256=((NV y 0).toNat:Int):=by rw[MB];unfold Y5;simp
          have STEP:=Ah (show(Nl y).take 8=(Nl y).take 7++[NV y 0]from rfl);have hl:((Nl y).take 7).length=7:=rfl;obtain⟨L,hL⟩:∃L,(Nl y).take 7=L:=⟨_,rfl⟩;rw[hL]at PO hl STEP;generalize NV y 0=β at hβ STEP;have HO:=Ah (PO.alloc (.cells #[.int .u8 (β.toNat:Int)] 5));clear PO hL HV;go_wp2_with (at_builtin;go_must(refine wpList_append_own _ rfl _ _ 22 rfl w.1.size 5 i0 (.int .u8 0) 1 1 underlying22 hi0 hz0 hz1 hz2 rfl Zb _ _ _ rfl HO ⟨wr.1.size,0,none⟩ 1 1 (Lib.byteCells [β]) rfl rfl (EC wr _ 5) Zr Zm Za Zp ?_;intro v2 w2 hown2 hgrow2 _));have B2:=Ah (Fu (HB.alloc HB.size _) uK Zp HO hgrow2);have O2:KT w2 w.1.size v2 (L++[β]):=KT.app hown2;go_roundw;case rel=>exact⟨8,Za,by go_num,Ah nD,B2⟩
          case measure=>simp[intOf]
        .have hm8:m=8:=Za;subst hm8;have hcv:=Tg PO (by simp[Nl]);rw[show(Nl y).take 8=Nl y from rfl]at hcv;clear PO;go_wp2;go_ret;exact⟨by rw[HV.out];rfl,HB⟩
theorem Xy:∀(k u:Nat),u<10^(k+1)->Lib.nDigits u<=k+1
 |0,u,h=>by rw[Lib.nDigits_small (by simpa using h)];exact AD _
 |k+1,u,h=>by
  by_cases h0:u<10;.rw[Lib.nDigits_small h0];omega
  .rw[Lib.nDigits_big h0];have h2:10^(k+1+1)=10^(k+1)*10:=Nat.pow_succ 10 (k+1);have:=Xy k (u/10) Za;omega
theorem Pt{n:Int}(h:n<=9223372036854775807):(Es n).size<=20:=by
 have e:(Es n).size=(Lib.decDigits n.toNat).length:=by simp[Es,ByteArray.size]
 rw[e,Lib.decDigits_length];exact Xy 19 _ Za
theorem lT (s:ByteArray):(VC s).length<=3*s.size+2:=by have:=OY s s.size;unfold VC;simp;omega
theorem nG{x:Wt}(h:Wk x=true):x.kind.size<=20/\x.name.size<=20/\0<=x.ver:=by unfold Wk at h;simp only[Al,decide_eq_true_eq]at h;exact⟨Mg h.1,Mg h.2.1,h.2.2⟩
theorem nE{x:Wr}(h:Li x=true):x.kind.size<=20/\x.name.size<=20/\0<=x.seen/\x.text.size<=300/\x.hold.size<=20/\0<=x.op/\x.op<=5:=by
 unfold Li Ky at h;simp only[Al,decide_eq_true_eq,L9]at h;obtain⟨⟨h1,h2,h3,h4,h5⟩,h6⟩:=h;refine⟨Mg h1,Mg h2,h3,h4,?_,?_⟩
 .rcases h5 with q|q
  .have:x.hold=⟨#[]⟩:=of_decide_eq_true q;rw[this];decide
  .exact Mg q
 .unfold Lz at h6;by_cases e1:x.op=1;.omega
  by_cases e2:x.op=2;.omega
  by_cases e3:x.op=3;.omega
  by_cases e4:x.op=4;.omega
  by_cases e5:x.op=5;.omega
  rw[if_neg e1,if_neg e2,if_neg e3,if_neg e4,if_neg e5]at h6;cases h6
theorem Vq{x:Wt}(h:Wk x=true)(hv:x.ver<=9223372036854775807):(O5 x).size<=100:=by obtain⟨h1,h2,h3⟩:=nG h;have h4:=Pt hv;rw[WV];omega
theorem Uw{x:Wr}(h:Li x=true)(hv:x.seen<=9223372036854775807):(OF x).size<=1200:=by obtain⟨h1,h2,h3,h4,h5,h6,h7⟩:=nE h;have h8:=Pt hv;have h9:=Pt (n:=x.op) Za;have h10:=lT x.text;rw[W6];omega
theorem UN (xs:List ByteArray):(OK xs).length+1=(NB xs).size:=by have h:=congrArg List.length (Mq xs);have e:(NB xs).size=(NB xs).data.toList.length:=Zc;rw[e,h];simp
theorem gI{u:Bu}(hb:Vl u)(hi:SS u):iK u:=by
 refine⟨λi h=>?_,λi h=>?_⟩;.obtain⟨h1,h2,h3⟩:=nG (hb.ws i h);have h4:=Vq (hb.ws i h) (hi.w i h);have h5:=UN [⟨#[119,97,110,116]⟩,(u.ws i).kind,(u.ws i).name,Es (u.ws i).ver];have h6:(NB [⟨#[119,97,110,116]⟩,(u.ws i).kind,(u.ws i).name,Es (u.ws i).ver]).size<=100:=h4;exact⟨Za,Za,h3,hi.w i h,Za,Za⟩
 .obtain⟨h1,h2,h3,h4,h5,h6,h7⟩:=nE (hb.rs i h);have h8:=Uw (hb.rs i h) (hi.r i h);have h9:=UN [⟨#[119,114,105,116,101]⟩,Es (u.rs i).op,(u.rs i).kind,(u.rs i).name,Es (u.rs i).seen,⟨(VC (u.rs i).text).toArray⟩,(u.rs i).hold];have h10:(NB [⟨#[119,114,105,116,101]⟩,Es (u.rs i).op,(u.rs i).kind,(u.rs i).name,Es (u.rs i).seen,⟨(VC (u.rs i).text).toArray⟩,(u.rs i).hold]).size<=1200:=h8;exact⟨h6,Za,h3,hi.r i h,Za,Za,Za⟩
theorem VX{u:Bu}(hb:Vl u)(hi:SS u):∀k,k<=u.wn->(XH u k).size<=100*k
 |0,_=>AD _
 |k+1,h=>by
  have h1:=VX hb hi k Za;have h2:=Vq (hb.ws k Za) (hi.w k Za);have e:(XH u (k+1)).size=(XH u k).size+(O5 (u.ws k)).size:=by simp[XH]
  omega
theorem bQ{u:Bu}(hb:Vl u)(hi:SS u):∀k,k<=u.rn->(YL u k).size<=1000+1200*k
 |0,_=>by have h1:=VX hb hi u.wn uK;have:=hb.wn;show(XH u u.wn).size<=_;omega
 |k+1,h=>by
  have h1:=bQ hb hi k Za;have h2:=Uw (hb.rs k Za) (hi.r k Za);have e:(YL u (k+1)).size=(YL u k).size+(OF (u.rs k)).size:=by simp[YL]
  omega
theorem mD{u:Bu}(hb:Vl u)(hi:SS u):pP u:=by have h1:=hb.wn;have h2:=hb.rn;exact⟨λk h=>by have:=VX hb hi k h;omega,λk h=>by have:=bQ hb hi k h;omega⟩
end Go.Proofs.Ytnnjcenacidceaa
