import Derived.Test.YtofencldleijcaaGreatPk32
import Derived.Test.YtofencldleijcaaGreatPk02
import Derived.Test.YtofencldleijcaaGreatPk11
import Derived.Deep.MidRow
import Derived.WalkKit
import Derived.LaidEql
import Derived.Stop.Asserts
import Derived.RowKitTokens
import Derived.Test.YtofencldleijcaaGreatPk19
import Derived.Test.YtofencldleijcaaGreatPk33
set_option maxRecDepth 100000
set_option maxHeartbeats 4000000
namespace Go.Proofs.YtofencldleijcaaGreat
open Go.RowKit Go.Proofs.Tryz
theorem TP (x:Wt):(Lo x).size=8+x.kind.size+x.name.size+(DI x.ver).size:=by have h:=congrArg List.length (Hu [⟨#[119,97,110,116]⟩,x.kind,x.name,DI x.ver]);have e:(Lo x).size=(Lo x).data.toList.length:=Zc;rw[e];unfold Lo;rw[h];simp[K3,Lib.join];omega
theorem TG (x:Wr):(Ls x).size=12+(DI x.op).size+x.kind.size+x.name.size+(DI x.seen).size+(R4 x.text).length+x.hold.size:=by have h:=congrArg List.length (Hu [⟨#[119,114,105,116,101]⟩,DI x.op,x.kind,x.name,DI x.seen,⟨(R4 x.text).toArray⟩,x.hold]);have e:(Ls x).size=(Ls x).data.toList.length:=Zc;rw[e];unfold Ls;rw[h];simp[K3,Lib.join];omega
theorem NX (n:Int)(h0:0<=n)(h1:n<=9223372036854775807)(w:World):Calls prog 68 #[.i n] w λe w'=>e=.returned (.s (DI n))/\Below w.1.size w w':=by have h:=TB n.toNat Zb w;rw[show((n.toNat:Nat):Int)=n by omega]at h;exact h
def Z4 (b:Nat)(s:ByteArray)(x:Wt)(_W:World)(i:Nat)(v:Value)(_X:World):Prop:=match i with
 |0=>v=.s s
 |1=>v=.s (s++(⟨#[119,97,110,116,32]⟩:ByteArray))
 |2=>v=.p b 0
 |3=>v=.s x.kind
 |4=>v=.s ((s++(⟨#[119,97,110,116,32]⟩:ByteArray))++x.kind)
 |5=>v=.s (((s++(⟨#[119,97,110,116,32]⟩:ByteArray))++x.kind)++(⟨#[32]⟩:ByteArray))
 |6=>v=.p b 1
 |7=>v=.s x.name
 |8=>v=.s ((((s++(⟨#[119,97,110,116,32]⟩:ByteArray))++x.kind)++(⟨#[32]⟩:ByteArray))++x.name)
 |9=>v=.s (((((s++(⟨#[119,97,110,116,32]⟩:ByteArray))++x.kind)++(⟨#[32]⟩:ByteArray))++x.name)++(⟨#[32]⟩:ByteArray))
 |10=>v=.p b 2
 |11=>v=.i x.ver
 |12=>v=.s (DI x.ver)
 |13=>v=.s ((((((s++(⟨#[119,97,110,116,32]⟩:ByteArray))++x.kind)++(⟨#[32]⟩:ByteArray))++x.name)++(⟨#[32]⟩:ByteArray))++DI x.ver)
 |14=>v=.s (((((((s++(⟨#[119,97,110,116,32]⟩:ByteArray))++x.kind)++(⟨#[32]⟩:ByteArray))++x.name)++(⟨#[32]⟩:ByteArray))++DI x.ver)++(⟨#[10]⟩:ByteArray))
 |_=>True
theorem Xq{P:Prop}(h:P:=by have e13:t 13=_:=hg 13 (BB rfl);have h:=hK _ X rfl Ck;refine Ar rfl rfl ?_;clear hK hg;go_simp;rw[if_neg Zb,AZ];go_simp;simpa[AN,e13]using h):P:=h
theorem Xk{P:Prop}(h:P:=by have e0:t 0=_:=hg 0 (BB rfl);have h:=hK _ X rfl Ck;refine Ar rfl rfl ?_;clear hK hg;go_simp;rw[if_neg Zb,AZ];go_simp;simpa[AN,e0]using h):P:=h
theorem fG{p0 p1 p2 p4 p6 p7 p8 p9 DA Du DC Dx Da CY CV CX CW CR C4 CU CS CQ EF EI EK EL EJ EE Ej Ei EA EB Ew Ex EW FU FW FV FC FA Fz FT Fx Hl Hm Hn Hk Hj GL GN GX GT GY GP GZ GV GQ GS GR G4 IA It Iu GU GO G3 GM G5 Ic JD Jj Jk Je Jh Jg Iy Iq Is Iw Ir Iz Ip Ji En Ez Ec Ed Eb D9 Ea Em Ek:Value}{mk:(Nat->Value)->Array Value}(t0:Nat->Value)(b:Nat)(s:ByteArray)(x:Wt)(W:World)(hb0:b<W.1.size)(hc0:W.cell? ⟨b,0,none⟩=some (.s x.kind))(hc1:W.cell? ⟨b,1,none⟩=some (.s x.name))(hc2:W.cell? ⟨b,2,none⟩=some (.i x.ver))(hv0:0<=x.ver)(hv1:x.ver<=9223372036854775807)(hs:(s.size:Int)<=1099511627776)(hk:(x.kind.size:Int)<=1048576)(hn:(x.name.size:Int)<=1048576)(hz:((DI x.ver).size:Int)<=1099511627776)(hmk:mk=λt=>#[p0,p1,p2,.s s,p4,.p b 0,p6,p7,p8,p9,DA,Du,DC,Dx,Da,CY,CV,CX,CW,CR,C4,CU,CS,CQ,t 0,t 1,t 2,t 3,t 4,t 5,t 6,t 7,t 8,t 9,t 10,t 11,t 12,t 13,t 14,EF,EI,EK,EL,EJ,EE,Ej,Ei,EA,EB,Ew,Ex,EW,FU,FW,FV,FC,FA,Fz,FT,Fx,Hl,Hm,Hn,Hk,Hj,GL,GN,GX,GT,GY,GP,GZ,GV,GQ,GS,GR,G4,IA,It,Iu,GU,GO,G3,GM,G5,Ic,JD,Jj,Jk,Je,Jh,Jg,Iy,Iq,Is,Iw,Ir,Iz,Ip,Ji,En,Ez,Ec,Ed,Eb,D9,Ea,Em,Ek])(Q:Exit->Act->World->Prop)(hQ:∀(t:Nat->Value) X,Below W.1.size W X->Q .normal ⟨#[p0,p1,p2,.s (s++Lo x),p4,.p b 0,p6,p7,p8,p9,DA,Du,DC,Dx,Da,CY,CV,CX,CW,CR,C4,CU,CS,CQ,t 0,t 1,t 2,t 3,t 4,t 5,t 6,t 7,t 8,t 9,t 10,t 11,t 12,t 13,t 14,EF,EI,EK,EL,EJ,EE,Ej,Ei,EA,EB,Ew,Ex,EW,FU,FW,FV,FC,FA,Fz,FT,Fx,Hl,Hm,Hn,Hk,Hj,GL,GN,GX,GT,GY,GP,GZ,GV,GQ,GS,GR,G4,IA,It,Iu,GU,GO,G3,GM,G5,Ic,JD,Jj,Jk,Je,Jh,Jg,Iy,Iq,Is,Iw,Ir,Iz,Ip,Ji,En,Ez,Ec,Ed,Eb,D9,Ea,Em,Ek],[]⟩ X):Code.wp prog (rg Tryz.f66 6) Q ⟨mk t0,[]⟩ W:=by
 refine Lm Ze 15 mk t0 (Z4 b s x W) (λa X=>∃(t:Nat->Value),a=⟨#[p0,p1,p2,.s (s++Lo x),p4,.p b 0,p6,p7,p8,p9,DA,Du,DC,Dx,Da,CY,CV,CX,CW,CR,C4,CU,CS,CQ,t 0,t 1,t 2,t 3,t 4,t 5,t 6,t 7,t 8,t 9,t 10,t 11,t 12,t 13,t 14,EF,EI,EK,EL,EJ,EE,Ej,Ei,EA,EB,Ew,Ex,EW,FU,FW,FV,FC,FA,Fz,FT,Fx,Hl,Hm,Hn,Hk,Hj,GL,GN,GX,GT,GY,GP,GZ,GV,GQ,GS,GR,G4,IA,It,Iu,GU,GO,G3,GM,G5,Ic,JD,Jj,Jk,Je,Jh,Jg,Iy,Iq,Is,Iw,Ir,Iz,Ip,Ji,En,Ez,Ec,Ed,Eb,D9,Ea,Em,Ek],[]⟩/\Below W.1.size W X) Ze Ze Ze ?_ rfl ?_ ?_ ?_;all_goals subst hmk
 .exact λ_ _ _ _ _ h _=>h
 .intro i hi t X K hb hg hK;rcases(show i=0\/i=1\/i=2\/i=3\/i=4\/i=5\/i=6\/i=7\/i=8\/i=9\/i=10\/i=11\/i=12\/i=13\/i=14 by omega)with rfl|rfl|rfl|rfl|rfl|rfl|rfl|rfl|rfl|rfl|rfl|rfl|rfl|rfl|rfl;.exact sg
  .exact Xk
  .exact sg
  .have ea:t 2=_:=hg 2 (BB rfl);have c0:=(hb.cell (p:=⟨b,0,none⟩) hb0).trans hc0;exact sg
  .have e1:t 1=_:=hg 1 (BB rfl);have e3:t 3=_:=hg 3 (BB rfl);have h:=hK _ X rfl Ck;refine Ar rfl rfl ?_;clear hK hg;go_simp;rw[if_neg Zb,AZ];go_simp;simpa[AN,e1,e3]using h
  .have e4:t 4=_:=hg 4 (BB rfl);have h:=hK _ X rfl Ck;refine Ar rfl rfl ?_;clear hK hg;go_simp;rw[if_neg Zb,AZ];go_simp;simpa[AN,e4]using h
  .exact sg
  .have ea:t 6=_:=hg 6 (BB rfl);have c1:=(hb.cell (p:=⟨b,1,none⟩) hb0).trans hc1;exact sg
  .have e5:t 5=_:=hg 5 (BB rfl);have e7:t 7=_:=hg 7 (BB rfl);have h:=hK _ X rfl Ck;refine Ar rfl rfl ?_;clear hK hg;go_simp;rw[if_neg Zb,AZ];go_simp;simpa[AN,e5,e7]using h
  .have e8:t 8=_:=hg 8 (BB rfl);have h:=hK _ X rfl Ck;refine Ar rfl rfl ?_;clear hK hg;go_simp;rw[if_neg Zb,AZ];go_simp;simpa[AN,e8]using h
  .exact sg
  .have ea:t 10=_:=hg 10 (BB rfl);have c2:=(hb.cell (p:=⟨b,2,none⟩) hb0).trans hc2;exact sg
  .have e11:t 11=_:=hg 11 (BB rfl);refine Ar rfl rfl ?_;have HK:=Ag hK;clear hK hg;go_simp;go_at_call 68;refine(NX x.ver hv0 hv1 X).mono ?_;rintro r Y ⟨rfl,hbY⟩;have h:=HK _ Y rfl hbY;simpa[AN,e11]using h
  .have e9:t 9=_:=hg 9 (BB rfl);have e12:t 12=_:=hg 12 (BB rfl);have h:=hK _ X rfl Ck;refine Ar rfl rfl ?_;clear hK hg;go_simp;rw[if_neg Zb,AZ];go_simp;simpa[AN,e9,e12]using h
  .exact Xq
 .intro t X K hb hg hK;have e14:t 14=_:=hg 14 Zb;have h:=hK ⟨#[p0,p1,p2,.s (s++Lo x),p4,.p b 0,p6,p7,p8,p9,DA,Du,DC,Dx,Da,CY,CV,CX,CW,CR,C4,CU,CS,CQ,t 0,t 1,t 2,t 3,t 4,t 5,t 6,t 7,t 8,t 9,t 10,t 11,t 12,t 13,t 14,EF,EI,EK,EL,EJ,EE,Ej,Ei,EA,EB,Ew,Ex,EW,FU,FW,FV,FC,FA,Fz,FT,Fx,Hl,Hm,Hn,Hk,Hj,GL,GN,GX,GT,GY,GP,GZ,GV,GQ,GS,GR,G4,IA,It,Iu,GU,GO,G3,GM,G5,Ic,JD,Jj,Jk,Je,Jh,Jg,Iy,Iq,Is,Iw,Ir,Iz,Ip,Ji,En,Ez,Ec,Ed,Eb,D9,Ea,Em,Ek],[]⟩ X ⟨t,rfl,hb⟩;rw[Lo,<-UC]at h;refine Ar rfl rfl ?_;clear hK hg;go_simp;simpa[e14]using h
 .rintro a X ⟨t,rfl,hb⟩;exact hQ t X hb
def Ws (b:Nat)(s:ByteArray)(x:Wr)(_W:World)(i:Nat)(v:Value)(_X:World):Prop:=match i with
 |0=>v=.s s
 |1=>v=.s (s++(⟨#[119,114,105,116,101,32]⟩:ByteArray))
 |2=>v=.p b 0
 |3=>v=.i x.op
 |4=>v=.s (DI x.op)
 |5=>v=.s ((s++(⟨#[119,114,105,116,101,32]⟩:ByteArray))++DI x.op)
 |6=>v=.s (((s++(⟨#[119,114,105,116,101,32]⟩:ByteArray))++DI x.op)++(⟨#[32]⟩:ByteArray))
 |7=>v=.p b 1
 |8=>v=.s x.kind
 |9=>v=.s ((((s++(⟨#[119,114,105,116,101,32]⟩:ByteArray))++DI x.op)++(⟨#[32]⟩:ByteArray))++x.kind)
 |10=>v=.s (((((s++(⟨#[119,114,105,116,101,32]⟩:ByteArray))++DI x.op)++(⟨#[32]⟩:ByteArray))++x.kind)++(⟨#[32]⟩:ByteArray))
 |11=>v=.p b 2
 |12=>v=.s x.name
 |13=>v=.s ((((((s++(⟨#[119,114,105,116,101,32]⟩:ByteArray))++DI x.op)++(⟨#[32]⟩:ByteArray))++x.kind)++(⟨#[32]⟩:ByteArray))++x.name)
 |14=>v=.s (((((((s++(⟨#[119,114,105,116,101,32]⟩:ByteArray))++DI x.op)++(⟨#[32]⟩:ByteArray))++x.kind)++(⟨#[32]⟩:ByteArray))++x.name)++(⟨#[32]⟩:ByteArray))
 |15=>v=.p b 3
 |16=>v=.i x.seen
 |17=>v=.s (DI x.seen)
 |18=>v=.s ((((((((s++(⟨#[119,114,105,116,101,32]⟩:ByteArray))++DI x.op)++(⟨#[32]⟩:ByteArray))++x.kind)++(⟨#[32]⟩:ByteArray))++x.name)++(⟨#[32]⟩:ByteArray))++DI x.seen)
 |19=>v=.s (((((((((s++(⟨#[119,114,105,116,101,32]⟩:ByteArray))++DI x.op)++(⟨#[32]⟩:ByteArray))++x.kind)++(⟨#[32]⟩:ByteArray))++x.name)++(⟨#[32]⟩:ByteArray))++DI x.seen)++(⟨#[32]⟩:ByteArray))
 |20=>v=.p b 4
 |21=>v=.s x.text
 |22=>v=.s (⟨(R4 x.text).toArray⟩:ByteArray)
 |23=>v=.s ((((((((((s++(⟨#[119,114,105,116,101,32]⟩:ByteArray))++DI x.op)++(⟨#[32]⟩:ByteArray))++x.kind)++(⟨#[32]⟩:ByteArray))++x.name)++(⟨#[32]⟩:ByteArray))++DI x.seen)++(⟨#[32]⟩:ByteArray))++(⟨(R4 x.text).toArray⟩:ByteArray))
 |24=>v=.s (((((((((((s++(⟨#[119,114,105,116,101,32]⟩:ByteArray))++DI x.op)++(⟨#[32]⟩:ByteArray))++x.kind)++(⟨#[32]⟩:ByteArray))++x.name)++(⟨#[32]⟩:ByteArray))++DI x.seen)++(⟨#[32]⟩:ByteArray))++(⟨(R4 x.text).toArray⟩:ByteArray))++(⟨#[32]⟩:ByteArray))
 |25=>v=.p b 5
 |26=>v=.s x.hold
 |27=>v=.s ((((((((((((s++(⟨#[119,114,105,116,101,32]⟩:ByteArray))++DI x.op)++(⟨#[32]⟩:ByteArray))++x.kind)++(⟨#[32]⟩:ByteArray))++x.name)++(⟨#[32]⟩:ByteArray))++DI x.seen)++(⟨#[32]⟩:ByteArray))++(⟨(R4 x.text).toArray⟩:ByteArray))++(⟨#[32]⟩:ByteArray))++x.hold)
 |28=>v=.s (((((((((((((s++(⟨#[119,114,105,116,101,32]⟩:ByteArray))++DI x.op)++(⟨#[32]⟩:ByteArray))++x.kind)++(⟨#[32]⟩:ByteArray))++x.name)++(⟨#[32]⟩:ByteArray))++DI x.seen)++(⟨#[32]⟩:ByteArray))++(⟨(R4 x.text).toArray⟩:ByteArray))++(⟨#[32]⟩:ByteArray))++x.hold)++(⟨#[10]⟩:ByteArray))
 |_=>True
theorem cH{p0 p1 p2 p4 p5 p6 p8 p9 DA Du DC Dx Da CY CV CX CW CR C4 CU CS CQ Dl C6 Db C9 C7 Dj Dg Df Dk Dh De Dt Di Dy DB EF EI EK EL EJ EE Ej Ei EA EB Ew Ex GU GO G3 GM G5 Ic JD Jj Jk Je Jh Jg Iy Iq Is Iw Ir Iz Ip Ji En Ez Ec Ed Eb D9 Ea Em Ek:Value}{mk:(Nat->Value)->Array Value}(t0:Nat->Value)(b:Nat)(s:ByteArray)(x:Wr)(W:World)(hb0:b<W.1.size)(hc0:W.cell? ⟨b,0,none⟩=some (.i x.op))(hc1:W.cell? ⟨b,1,none⟩=some (.s x.kind))(hc2:W.cell? ⟨b,2,none⟩=some (.s x.name))(hc3:W.cell? ⟨b,3,none⟩=some (.i x.seen))(hc4:W.cell? ⟨b,4,none⟩=some (.s x.text))(hc5:W.cell? ⟨b,5,none⟩=some (.s x.hold))(ho0:0<=x.op)(ho1:x.op<=9223372036854775807)(hv0:0<=x.seen)(hv1:x.seen<=9223372036854775807)(hx:(x.text.size:Int)<=1099511627776)(hs:(s.size:Int)<=1099511627776)(hz1:((DI x.op).size:Int)<=1099511627776)(hz2:(x.kind.size:Int)<=1099511627776)(hz3:(x.name.size:Int)<=1099511627776)(hz4:((DI x.seen).size:Int)<=1099511627776)(hz5:((R4 x.text).length:Int)<=1099511627776)(hz6:(x.hold.size:Int)<=1099511627776)(hmk:mk=λt=>#[p0,p1,p2,.s s,p4,p5,p6,.p b 0,p8,p9,DA,Du,DC,Dx,Da,CY,CV,CX,CW,CR,C4,CU,CS,CQ,Dl,C6,Db,C9,C7,Dj,Dg,Df,Dk,Dh,De,Dt,Di,Dy,DB,EF,EI,EK,EL,EJ,EE,Ej,Ei,EA,EB,Ew,Ex,t 0,t 1,t 2,t 3,t 4,t 5,t 6,t 7,t 8,t 9,t 10,t 11,t 12,t 13,t 14,t 15,t 16,t 17,t 18,t 19,t 20,t 21,t 22,t 23,t 24,t 25,t 26,t 27,t 28,GU,GO,G3,GM,G5,Ic,JD,Jj,Jk,Je,Jh,Jg,Iy,Iq,Is,Iw,Ir,Iz,Ip,Ji,En,Ez,Ec,Ed,Eb,D9,Ea,Em,Ek])(Q:Exit->Act->World->Prop)(hQ:∀(t:Nat->Value) X,Below W.1.size W X->Q .normal ⟨#[p0,p1,p2,.s (s++Ls x),p4,p5,p6,.p b 0,p8,p9,DA,Du,DC,Dx,Da,CY,CV,CX,CW,CR,C4,CU,CS,CQ,Dl,C6,Db,C9,C7,Dj,Dg,Df,Dk,Dh,De,Dt,Di,Dy,DB,EF,EI,EK,EL,EJ,EE,Ej,Ei,EA,EB,Ew,Ex,t 0,t 1,t 2,t 3,t 4,t 5,t 6,t 7,t 8,t 9,t 10,t 11,t 12,t 13,t 14,t 15,t 16,t 17,t 18,t 19,t 20,t 21,t 22,t 23,t 24,t 25,t 26,t 27,t 28,GU,GO,G3,GM,G5,Ic,JD,Jj,Jk,Je,Jh,Jg,Iy,Iq,Is,Iw,Ir,Iz,Ip,Ji,En,Ez,Ec,Ed,Eb,D9,Ea,Em,Ek],[]⟩ X):Code.wp prog (rg Tryz.f66 11) Q ⟨mk t0,[]⟩ W:=by
 refine Lm Ze 29 mk t0 (Ws b s x W) (λa X=>∃(t:Nat->Value),a=⟨#[p0,p1,p2,.s (s++Ls x),p4,p5,p6,.p b 0,p8,p9,DA,Du,DC,Dx,Da,CY,CV,CX,CW,CR,C4,CU,CS,CQ,Dl,C6,Db,C9,C7,Dj,Dg,Df,Dk,Dh,De,Dt,Di,Dy,DB,EF,EI,EK,EL,EJ,EE,Ej,Ei,EA,EB,Ew,Ex,t 0,t 1,t 2,t 3,t 4,t 5,t 6,t 7,t 8,t 9,t 10,t 11,t 12,t 13,t 14,t 15,t 16,t 17,t 18,t 19,t 20,t 21,t 22,t 23,t 24,t 25,t 26,t 27,t 28,GU,GO,G3,GM,G5,Ic,JD,Jj,Jk,Je,Jh,Jg,Iy,Iq,Is,Iw,Ir,Iz,Ip,Ji,En,Ez,Ec,Ed,Eb,D9,Ea,Em,Ek],[]⟩/\Below W.1.size W X) Ze Ze Ze ?_ rfl ?_ ?_ ?_;all_goals subst hmk
 .exact λ_ _ _ _ _ h _=>h
 .intro i hi t X K hb hg hK;rcases(show i=0\/i=1\/i=2\/i=3\/i=4\/i=5\/i=6\/i=7\/i=8\/i=9\/i=10\/i=11\/i=12\/i=13\/i=14\/i=15\/i=16\/i=17\/i=18\/i=19\/i=20\/i=21\/i=22\/i=23\/i=24\/i=25\/i=26\/i=27\/i=28 by omega)with rfl|rfl|rfl|rfl|rfl|rfl|rfl|rfl|rfl|rfl|rfl|rfl|rfl|rfl|rfl|rfl|rfl|rfl|rfl|rfl|rfl|rfl|rfl|rfl|rfl|rfl|rfl|rfl|rfl;.exact sg
  .exact Xk
  .exact sg
  .have ea:t 2=_:=hg 2 (BB rfl);have c0:=(hb.cell (p:=⟨b,0,none⟩) hb0).trans hc0;exact sg
  .have e3:t 3=_:=hg 3 (BB rfl);refine Ar rfl rfl ?_;have HK:=Ag hK;clear hK hg;go_simp;go_at_call 68;refine(NX x.op ho0 ho1 X).mono ?_;rintro r Y ⟨rfl,hbY⟩;have h:=HK _ Y rfl hbY;simpa[AN,e3]using h
  .have e1:t 1=_:=hg 1 (BB rfl);have e4:t 4=_:=hg 4 (BB rfl);have h:=hK _ X rfl Ck;refine Ar rfl rfl ?_;clear hK hg;go_simp;rw[if_neg Zb,AZ];go_simp;simpa[AN,e1,e4]using h
  .have e5:t 5=_:=hg 5 (BB rfl);have h:=hK _ X rfl Ck;refine Ar rfl rfl ?_;clear hK hg;go_simp;rw[if_neg Zb,AZ];go_simp;simpa[AN,e5]using h
  .exact sg
  .have ea:t 7=_:=hg 7 (BB rfl);have c1:=(hb.cell (p:=⟨b,1,none⟩) hb0).trans hc1;exact sg
  .have e6:t 6=_:=hg 6 (BB rfl);have e8:t 8=_:=hg 8 (BB rfl);have h:=hK _ X rfl Ck;refine Ar rfl rfl ?_;clear hK hg;go_simp;rw[if_neg Zb,AZ];go_simp;simpa[AN,e6,e8]using h
  .have e9:t 9=_:=hg 9 (BB rfl);have h:=hK _ X rfl Ck;refine Ar rfl rfl ?_;clear hK hg;go_simp;rw[if_neg Zb,AZ];go_simp;simpa[AN,e9]using h
  .exact sg
  .have ea:t 11=_:=hg 11 (BB rfl);have c2:=(hb.cell (p:=⟨b,2,none⟩) hb0).trans hc2;exact sg
  .have e10:t 10=_:=hg 10 (BB rfl);have e12:t 12=_:=hg 12 (BB rfl);have h:=hK _ X rfl Ck;refine Ar rfl rfl ?_;clear hK hg;go_simp;rw[if_neg Zb,AZ];go_simp;simpa[AN,e10,e12]using h
  .exact Xq
  .exact sg
  .have ea:t 15=_:=hg 15 (BB rfl);have c3:=(hb.cell (p:=⟨b,3,none⟩) hb0).trans hc3;exact sg
  .have e16:t 16=_:=hg 16 (BB rfl);refine Ar rfl rfl ?_;have HK:=Ag hK;clear hK hg;go_simp;go_at_call 68;refine(NX x.seen hv0 hv1 X).mono ?_;rintro r Y ⟨rfl,hbY⟩;have h:=HK _ Y rfl hbY;simpa[AN,e16]using h
  .have e14:t 14=_:=hg 14 (BB rfl);have e17:t 17=_:=hg 17 (BB rfl);have h:=hK _ X rfl Ck;refine Ar rfl rfl ?_;clear hK hg;go_simp;rw[if_neg Zb,AZ];go_simp;simpa[AN,e14,e17]using h
  .have e18:t 18=_:=hg 18 (BB rfl);have h:=hK _ X rfl Ck;refine Ar rfl rfl ?_;clear hK hg;go_simp;rw[if_neg Zb,AZ];go_simp;simpa[AN,e18]using h
  .exact sg
  .have ea:t 20=_:=hg 20 (BB rfl);have c4:=(hb.cell (p:=⟨b,4,none⟩) hb0).trans hc4;exact sg
  .have e21:t 21=_:=hg 21 (BB rfl);refine Ar rfl rfl ?_;have HK:=Ag hK;clear hK hg;go_simp;go_at_call 98;refine(UQ x.text X hx).mono ?_;rintro r Y ⟨rfl,hbY⟩;have h:=HK _ Y rfl hbY;simpa[AN,e21]using h
  .have e19:t 19=_:=hg 19 (BB rfl);have e22:t 22=_:=hg 22 (BB rfl);have h:=hK _ X rfl Ck;refine Ar rfl rfl ?_;clear hK hg;go_simp;rw[if_neg Zb,AZ];go_simp;simpa[AN,e19,e22]using h
  .have e23:t 23=_:=hg 23 (BB rfl);have h:=hK _ X rfl Ck;refine Ar rfl rfl ?_;clear hK hg;go_simp;rw[if_neg Zb,AZ];go_simp;simpa[AN,e23]using h
  .exact sg
  .have ea:t 25=_:=hg 25 (BB rfl);have c5:=(hb.cell (p:=⟨b,5,none⟩) hb0).trans hc5;exact sg
  .have e24:t 24=_:=hg 24 (BB rfl);have e26:t 26=_:=hg 26 (BB rfl);have h:=hK _ X rfl Ck;refine Ar rfl rfl ?_;clear hK hg;go_simp;rw[if_neg Zb,AZ];go_simp;simpa[AN,e24,e26]using h
  .have e27:t 27=_:=hg 27 (BB rfl);have h:=hK _ X rfl Ck;refine Ar rfl rfl ?_;clear hK hg;go_simp;rw[if_neg Zb,AZ];go_simp;simpa[AN,e27]using h
 .intro t X K hb hg hK;have e28:t 28=_:=hg 28 Zb;have h:=hK ⟨#[p0,p1,p2,.s (s++Ls x),p4,p5,p6,.p b 0,p8,p9,DA,Du,DC,Dx,Da,CY,CV,CX,CW,CR,C4,CU,CS,CQ,Dl,C6,Db,C9,C7,Dj,Dg,Df,Dk,Dh,De,Dt,Di,Dy,DB,EF,EI,EK,EL,EJ,EE,Ej,Ei,EA,EB,Ew,Ex,t 0,t 1,t 2,t 3,t 4,t 5,t 6,t 7,t 8,t 9,t 10,t 11,t 12,t 13,t 14,t 15,t 16,t 17,t 18,t 19,t 20,t 21,t 22,t 23,t 24,t 25,t 26,t 27,t 28,GU,GO,G3,GM,G5,Ic,JD,Jj,Jk,Je,Jh,Jg,Iy,Iq,Is,Iw,Ir,Iz,Ip,Ji,En,Ez,Ec,Ed,Eb,D9,Ea,Em,Ek],[]⟩ X ⟨t,rfl,hb⟩;rw[Ls,<-Sm]at h;refine Ar rfl rfl ?_;clear hK hg;go_simp;simpa[e28]using h
 .rintro a X ⟨t,rfl,hb⟩;exact hQ t X hb
theorem SL.mono{w:World}{base base':Nat}{v:Value}{xs:List ByteArray}(h:SL w base v xs)(hb:base'<=base):SL w base' v xs:=by obtain⟨g,cap,e1,e2,e3,e4,e5,e6⟩:=h;exact⟨g,cap,e1,AG hb e2,e3,e4,e5,e6⟩
structure Yw (u:Bu):Prop where
 w:∀i,i<u.wn->((u.ws i).kind.size:Int)<=1048576/\((u.ws i).name.size:Int)<=1048576/\0<=(u.ws i).ver/\(u.ws i).ver<=9223372036854775807/\((K3 [⟨#[119,97,110,116]⟩,(u.ws i).kind,(u.ws i).name,DI (u.ws i).ver]).length:Int)<=1000000000000/\((Lo (u.ws i)).size:Int)<=1099511627776
 r:∀i,i<u.rn->0<=(u.rs i).op/\(u.rs i).op<=9223372036854775807/\0<=(u.rs i).seen/\(u.rs i).seen<=9223372036854775807/\((u.rs i).text.size:Int)<=1099511627776/\((K3 [⟨#[119,114,105,116,101]⟩,DI (u.rs i).op,(u.rs i).kind,(u.rs i).name,DI (u.rs i).seen,⟨(R4 (u.rs i).text).toArray⟩,(u.rs i).hold]).length:Int)<=1000000000000/\((Ls (u.rs i)).size:Int)<=1099511627776
def gX (x:Bu):Prop:=(∀k,k<=x.wn->((TV x k).size:Int)<=1099511627776)/\(∀k,k<=x.rn->((UX x k).size:Int)<=1099511627776)
theorem JW (x:Bu)(ua ub:OA)(d1 d2:Nat)(w:World)(lo hi:Nat)(hhi:hi<=w.1.size)(hu:Ku x)(hp:Yw x)(hx:gX x)(hc:Fl w lo hi x ua ub):Calls prog 66 #[.agg (vU x ua ub d1 d2)] w λe w'=>e=.returned (.s (KL x))/\Below w.1.size w w':=by
 obtain⟨i0,hi0,hz0,hz1,hz2⟩:=info_parts KS;have hw:=hu.w;have hr:=hu.r;have HP:=Ag hp;have HC:=Ag hc;have HX:=Ag hx;clear hu hc hp hx;have hq:D4 (w.alloc (.cells (vU x ua ub d1 d2) 88)) w.1.size (iZ x ua ub d1 d2):=λj hj=>by rw[Ao];rcases(show j=0\/j=1 by simp at hj;omega)with rfl|rfl<;>rfl
 have hb:=An w (.cells (vU x ua ub d1 d2) 88);have hz:w.1.size<(w.alloc (.cells (vU x ua ub d1 d2) 88)).1.size:=Zc;go_enter func66,ntmps66;go_upto_region 1 with fail;generalize(w.alloc (.cells (vU x ua ub d1 d2) 88))=W1 at hq hb hz⊢;have HQ:=Ag hq;have HB:=Ag hb;clear hq hb;go_wp2;go_loopw[3,4](λv i wr=>∃k:Nat,k<=x.wn/\i=.i k/\v=.s (TV x k)/\w.1.size<wr.1.size/\Hid (D4 wr w.1.size (iZ x ua ub d1 d2))/\Hid (Below w.1.size w wr))(λ_ i _=>x.wn-(intOf i).toNat);case atStart=>exact⟨0,Aw _,rfl,rfl,hz,HQ,HB⟩
 case round=>
  clear HQ HB hz;obtain⟨k,hk,rfl,rfl,hz,HQ,HB⟩:=hrel;have q0:=HQ.out 0 Zc;simp only[A7,Ae]at q0;by_cases hkn:k<x.wn;.obtain⟨b,off,hu1,hlo,hbh,hcx⟩:=HC.wt k hkn;subst hu1;obtain⟨e0,e1,e2⟩:=hcx.below HB Zb;clear hcx;have zb:=HB.size;obtain⟨f0,f1,f2,f3,f4,f5⟩:=HP.w k hkn;have fs:=HX.out.1 k hk;have fz:=TP (x.ws k);go_wp2;refine fG (λi=>[u24,u25,u26,u27,u28,u29,u30,u31,u32,u33,u34,u35,u36,u37,u38].getD i undef) wr.1.size (TV x k) (x.ws k) (wr.alloc (.cells #[.s (x.ws k).kind,.s (x.ws k).name,.i (x.ws k).ver] 120)) Zc aK aK aK f2 f3 fs f0 f1 Zb rfl _ ?_;intro t X hbX;have zX:=hbX.size;have mK:=Ag ((HQ.below EC hz).below hbX Zd);have RS:=Ag ((HB.trans ((An wr (.cells #[.s (x.ws k).kind,.s (x.ws k).name,.i (x.ws k).ver] 120)).mono zb)).trans (hbX.mono Zd));clear q0;go_wp2;exact⟨⟨k+1,Zb,by go_num,rfl,by simp at zX;omega,mK,RS⟩,by simp[intOf];omega⟩
  .have hkw:k=x.wn:=Zb;subst hkw;go_wp2;clear q0;go_loopw[3,6](λv i wr=>∃k:Nat,k<=x.rn/\i=.i k/\v=.s (UX x k)/\w.1.size<wr.1.size/\Hid (D4 wr w.1.size (iZ x ua ub d1 d2))/\Hid (Below w.1.size w wr))(λ_ i _=>x.rn-(intOf i).toNat);case atStart=>exact⟨0,Aw _,rfl,rfl,hz,HQ,HB⟩
   case round=>
    clear HQ HB hz;obtain⟨k,hk,rfl,rfl,hz,HQ,HB⟩:=hrel;have q1:=HQ.out 1 Zc;simp only[A7,Ae,Af]at q1;by_cases hkn:k<x.rn;.obtain⟨b,off,hu1,hlo,hbh,hcx⟩:=HC.wr k hkn;subst hu1;obtain⟨e0,e1,e2,e3,e4,e5⟩:=hcx.below HB Zb;clear hcx;have zb:=HB.size;obtain⟨f0,f1,f2,f3,f4,f5,f6⟩:=HP.r k hkn;have fs:=HX.out.2 k hk;have fz:=TG (x.rs k);go_wp2;refine cH (λi=>[u51,u52,u53,u54,u55,u56,u57,u58,u59,u60,u61,u62,u63,u64,u65,u66,u67,u68,u69,u70,u71,u72,u73,u74,u75,u76,u77,u78,u79].getD i undef) wr.1.size (UX x k) (x.rs k) (wr.alloc (.cells (vW (x.rs k)) 36)) Zc aK aK aK aK aK aK f0 f1 f2 f3 f4 fs Zb Zb Zb Zb Zb Zb rfl _ ?_;intro t X hbX;have zX:=hbX.size;have mK:=Ag ((HQ.below EC hz).below hbX Zd);have RS:=Ag ((HB.trans ((An wr (.cells (vW (x.rs k)) 36)).mono zb)).trans (hbX.mono Zd));clear q1;go_wp2;exact⟨⟨k+1,Zb,by go_num,rfl,by simp at zX;omega,mK,RS⟩,by simp[intOf];omega⟩
    .have hkw:k=x.rn:=Zb;subst hkw;have bd:=iG x x.rn;have HV:=Ag (show KL x=⟨(JB (fN x x.rn)).toArray⟩from rfl);have HS:=Ag (Wp x x.rn);have fs:=HX.out.2 _ hk;clear hw hr;generalize UX x x.rn=s at HS fs⊢;generalize fN x x.rn=y at HS HV bd;go_wp2;clear q1;go_loopw[8,9](λv i wr'=>∃k:Nat,k<=s.size/\i=.i k/\v=.int .u64 (LR 14695981039346656037 (s.data.toList.take k))/\wr'=wr)(λ_ i _=>s.size-(intOf i).toNat);case atStart=>exact⟨0,Aw _,rfl,rfl,rfl⟩
     case round=>
      obtain⟨k,hk,rfl,rfl,rfl⟩:=hrel;by_cases hkn:k<s.size;.have STEP:=Ag (Vt 14695981039346656037 s k hkn);go_wp2;exact⟨⟨k+1,Zb,by go_num,by rw[STEP.out];rfl,trivial⟩,by simp[intOf];omega⟩
      .have hks:k=s.size:=Zb;subst hks;have HT:=Ag (show LR 14695981039346656037 (s.data.toList.take s.size)=y by rw[HS.out,List.take_of_length_le Zc]);rw[HT.out];clear HS HT bd fs;go_wp2;go_loopw[10,11](λv i wr'=>∃m:Nat,m<=8/\i=.i (7-(m:Int))/\Hid (EY wr' w.1.size v ((JB y).take m))/\Hid (Below w.1.size w wr'))(λ_ i _=>(intOf i+1).toNat);case atStart=>exact⟨0,Aw _,rfl,Ag (World.ownsRow_lit wr #[] 0 HB.size Zs rfl),Ag (HB.alloc HB.size _)⟩
       case round=>
        clear HB HQ hz;obtain⟨m,hm,rfl,L1,HB⟩:=hrel;by_cases hmn:m<8
        .have zb:=HB.size;rcases(show m=0\/m=1\/m=2\/m=3\/m=4\/m=5\/m=6\/m=7 by omega)with rfl|rfl|rfl|rfl|rfl|rfl|rfl|rfl
         .have hβ:y/72057594037927936%256=((J8 y 7).toNat:Int):=by rw[IG];unfold VJ;simp
          have STEP:=Ag (show(JB y).take 1=(JB y).take 0++[J8 y 7]from rfl);have hl:((JB y).take 0).length=0:=rfl;obtain⟨L,hL⟩:∃L,(JB y).take 0=L:=⟨_,rfl⟩;rw[hL]at L1 hl STEP;generalize J8 y 7=β at hβ STEP;have HO:=Ag (L1.alloc (.cells #[.int .u8 (β.toNat:Int)] 5));clear L1 hL HV;go_wp2_with (at_builtin;go_must(refine wpList_append_own _ rfl _ _ 22 rfl w.1.size 5 i0 (.int .u8 0) 1 1 underlying22 hi0 hz0 hz1 hz2 rfl Za _ _ _ rfl HO ⟨wr.1.size,0,none⟩ 1 1 (Lib.byteCells [β]) rfl rfl (DN wr _ 5) WD Zs Zb RZ ?_;intro v2 w2 hown2 hgrow2 _));have B2:=Ag (Ef (HB.alloc HB.size _) Bg RZ HO hgrow2);have O2:EY w2 w.1.size v2 (L++[β]):=EY.app hown2;go_roundw;case rel=>exact⟨1,Zb,by go_num,Ag dQ,B2⟩
          case measure=>simp[intOf]
         .have hβ:y/281474976710656%256=((J8 y 6).toNat:Int):=by rw[IG];unfold VJ;simp
          have STEP:=Ag (show(JB y).take 2=(JB y).take 1++[J8 y 6]from rfl);have hl:((JB y).take 1).length=1:=rfl;obtain⟨L,hL⟩:∃L,(JB y).take 1=L:=⟨_,rfl⟩;rw[hL]at L1 hl STEP;generalize J8 y 6=β at hβ STEP;have HO:=Ag (L1.alloc (.cells #[.int .u8 (β.toNat:Int)] 5));clear L1 hL HV;go_wp2_with (at_builtin;go_must(refine wpList_append_own _ rfl _ _ 22 rfl w.1.size 5 i0 (.int .u8 0) 1 1 underlying22 hi0 hz0 hz1 hz2 rfl Za _ _ _ rfl HO ⟨wr.1.size,0,none⟩ 1 1 (Lib.byteCells [β]) rfl rfl (DN wr _ 5) WD Zs Zb RZ ?_;intro v2 w2 hown2 hgrow2 _));have B2:=Ag (Ef (HB.alloc HB.size _) Bg RZ HO hgrow2);have O2:EY w2 w.1.size v2 (L++[β]):=EY.app hown2;go_roundw;case rel=>exact⟨2,Zb,by go_num,Ag dQ,B2⟩
          case measure=>simp[intOf]
         .have hβ:y/1099511627776%256=((J8 y 5).toNat:Int):=by rw[IG];unfold VJ;simp
          have STEP:=Ag (show(JB y).take 3=(JB y).take 2++[J8 y 5]from rfl);have hl:((JB y).take 2).length=2:=rfl;obtain⟨L,hL⟩:∃L,(JB y).take 2=L:=⟨_,rfl⟩;rw[hL]at L1 hl STEP;generalize J8 y 5=β at hβ STEP;have HO:=Ag (L1.alloc (.cells #[.int .u8 (β.toNat:Int)] 5));clear L1 hL HV;go_wp2_with (at_builtin;go_must(refine wpList_append_own _ rfl _ _ 22 rfl w.1.size 5 i0 (.int .u8 0) 1 1 underlying22 hi0 hz0 hz1 hz2 rfl Za _ _ _ rfl HO ⟨wr.1.size,0,none⟩ 1 1 (Lib.byteCells [β]) rfl rfl (DN wr _ 5) WD Zs Zb RZ ?_;intro v2 w2 hown2 hgrow2 _));have B2:=Ag (Ef (HB.alloc HB.size _) Bg RZ HO hgrow2);have O2:EY w2 w.1.size v2 (L++[β]):=EY.app hown2;go_roundw;case rel=>exact⟨3,Zb,by go_num,Ag dQ,B2⟩
          case measure=>simp[intOf]
         .have hβ:y/4294967296%256=((J8 y 4).toNat:Int):=by rw[IG];unfold VJ;simp
          have STEP:=Ag (show(JB y).take 4=(JB y).take 3++[J8 y 4]from rfl);have hl:((JB y).take 3).length=3:=rfl;obtain⟨L,hL⟩:∃L,(JB y).take 3=L:=⟨_,rfl⟩;rw[hL]at L1 hl STEP;generalize J8 y 4=β at hβ STEP;have HO:=Ag (L1.alloc (.cells #[.int .u8 (β.toNat:Int)] 5));clear L1 hL HV;go_wp2_with (at_builtin;go_must(refine wpList_append_own _ rfl _ _ 22 rfl w.1.size 5 i0 (.int .u8 0) 1 1 underlying22 hi0 hz0 hz1 hz2 rfl Za _ _ _ rfl HO ⟨wr.1.size,0,none⟩ 1 1 (Lib.byteCells [β]) rfl rfl (DN wr _ 5) WD Zs Zb RZ ?_;intro v2 w2 hown2 hgrow2 _));have B2:=Ag (Ef (HB.alloc HB.size _) Bg RZ HO hgrow2);have O2:EY w2 w.1.size v2 (L++[β]):=EY.app hown2;go_roundw;case rel=>exact⟨4,Zb,by go_num,Ag dQ,B2⟩
          case measure=>simp[intOf]
         .have hβ:y/16777216%256=((J8 y 3).toNat:Int):=by rw[IG];unfold VJ;simp
          have STEP:=Ag (show(JB y).take 5=(JB y).take 4++[J8 y 3]from rfl);have hl:((JB y).take 4).length=4:=rfl;obtain⟨L,hL⟩:∃L,(JB y).take 4=L:=⟨_,rfl⟩;rw[hL]at L1 hl STEP;generalize J8 y 3=β at hβ STEP;have HO:=Ag (L1.alloc (.cells #[.int .u8 (β.toNat:Int)] 5));clear L1 hL HV;go_wp2_with (at_builtin;go_must(refine wpList_append_own _ rfl _ _ 22 rfl w.1.size 5 i0 (.int .u8 0) 1 1 underlying22 hi0 hz0 hz1 hz2 rfl Za _ _ _ rfl HO ⟨wr.1.size,0,none⟩ 1 1 (Lib.byteCells [β]) rfl rfl (DN wr _ 5) WD Zs Zb RZ ?_;intro v2 w2 hown2 hgrow2 _));have B2:=Ag (Ef (HB.alloc HB.size _) Bg RZ HO hgrow2);have O2:EY w2 w.1.size v2 (L++[β]):=EY.app hown2;go_roundw;case rel=>exact⟨5,Zb,by go_num,Ag dQ,B2⟩
          case measure=>simp[intOf]
         .have hβ:y/65536%256=((J8 y 2).toNat:Int):=by rw[IG];unfold VJ;simp
          have STEP:=Ag (show(JB y).take 6=(JB y).take 5++[J8 y 2]from rfl);have hl:((JB y).take 5).length=5:=rfl;obtain⟨L,hL⟩:∃L,(JB y).take 5=L:=⟨_,rfl⟩;rw[hL]at L1 hl STEP;generalize J8 y 2=β at hβ STEP;have HO:=Ag (L1.alloc (.cells #[.int .u8 (β.toNat:Int)] 5));clear L1 hL HV;go_wp2_with (at_builtin;go_must(refine wpList_append_own _ rfl _ _ 22 rfl w.1.size 5 i0 (.int .u8 0) 1 1 underlying22 hi0 hz0 hz1 hz2 rfl Za _ _ _ rfl HO ⟨wr.1.size,0,none⟩ 1 1 (Lib.byteCells [β]) rfl rfl (DN wr _ 5) WD Zs Zb RZ ?_;intro v2 w2 hown2 hgrow2 _));have B2:=Ag (Ef (HB.alloc HB.size _) Bg RZ HO hgrow2);have O2:EY w2 w.1.size v2 (L++[β]):=EY.app hown2;go_roundw;case rel=>exact⟨6,Zb,by go_num,Ag dQ,B2⟩
          case measure=>simp[intOf]
         .have hβ:y/256%256=((J8 y 1).toNat:Int):=by rw[IG];unfold VJ;simp
          have STEP:=Ag (show(JB y).take 7=(JB y).take 6++[J8 y 1]from rfl);have hl:((JB y).take 6).length=6:=rfl;obtain⟨L,hL⟩:∃L,(JB y).take 6=L:=⟨_,rfl⟩;rw[hL]at L1 hl STEP;generalize J8 y 1=β at hβ STEP;have HO:=Ag (L1.alloc (.cells #[.int .u8 (β.toNat:Int)] 5));clear L1 hL HV;go_wp2_with (at_builtin;go_must(refine wpList_append_own _ rfl _ _ 22 rfl w.1.size 5 i0 (.int .u8 0) 1 1 underlying22 hi0 hz0 hz1 hz2 rfl Za _ _ _ rfl HO ⟨wr.1.size,0,none⟩ 1 1 (Lib.byteCells [β]) rfl rfl (DN wr _ 5) WD Zs Zb RZ ?_;intro v2 w2 hown2 hgrow2 _));have B2:=Ag (Ef (HB.alloc HB.size _) Bg RZ HO hgrow2);have O2:EY w2 w.1.size v2 (L++[β]):=EY.app hown2;go_roundw;case rel=>exact⟨7,Zb,by go_num,Ag dQ,B2⟩
          case measure=>simp[intOf]
         .have hβ:y%256=((J8 y 0).toNat:Int):=by rw[IG];unfold VJ;simp
          have STEP:=Ag (show(JB y).take 8=(JB y).take 7++[J8 y 0]from rfl);have hl:((JB y).take 7).length=7:=rfl;obtain⟨L,hL⟩:∃L,(JB y).take 7=L:=⟨_,rfl⟩;rw[hL]at L1 hl STEP;generalize J8 y 0=β at hβ STEP;have HO:=Ag (L1.alloc (.cells #[.int .u8 (β.toNat:Int)] 5));clear L1 hL HV;go_wp2_with (at_builtin;go_must(refine wpList_append_own _ rfl _ _ 22 rfl w.1.size 5 i0 (.int .u8 0) 1 1 underlying22 hi0 hz0 hz1 hz2 rfl Za _ _ _ rfl HO ⟨wr.1.size,0,none⟩ 1 1 (Lib.byteCells [β]) rfl rfl (DN wr _ 5) WD Zs Zb RZ ?_;intro v2 w2 hown2 hgrow2 _));have B2:=Ag (Ef (HB.alloc HB.size _) Bg RZ HO hgrow2);have O2:EY w2 w.1.size v2 (L++[β]):=EY.app hown2;go_roundw;case rel=>exact⟨8,Zb,by go_num,Ag dQ,B2⟩
          case measure=>simp[intOf]
        .have hm8:m=8:=Zb;subst hm8;have hcv:=Pm L1 (by simp[JB]);rw[show(JB y).take 8=JB y from rfl]at hcv;clear L1;go_wp2;go_ret;exact⟨by rw[HV.out];rfl,HB⟩
theorem Tw:∀(k u:Nat),u<10^(k+1)->Lib.nDigits u<=k+1
 |0,u,h=>by rw[Lib.nDigits_small TX];exact Az _
 |k+1,u,h=>by
  by_cases h0:u<10;.rw[Lib.nDigits_small h0];omega
  .rw[Lib.nDigits_big h0];have h2:10^(k+1+1)=10^(k+1)*10:=Nat.pow_succ 10 (k+1);have:=Tw k (u/10) Zb;omega
theorem LW{n:Int}(h:n<=9223372036854775807):(DI n).size<=20:=by
 have e:(DI n).size=(Lib.decDigits n.toNat).length:=by simp[DI,ByteArray.size]
 rw[e,Lib.decDigits_length];exact Tw 19 _ Zb
theorem aL (s:ByteArray):(R4 s).length<=3*s.size+2:=by have:=Lh s s.size;unfold R4;simp;omega
theorem dL{x:Wt}(h:SH x=true):x.kind.size<=20/\x.name.size<=20/\0<=x.ver:=by unfold SH at h;simp only[Ak,decide_eq_true_eq]at h;exact⟨Ho h.1,Ho h.2.1,h.2.2⟩
theorem dI{x:Wr}(h:EU x=true):x.kind.size<=20/\x.name.size<=20/\0<=x.seen/\x.text.size<=300/\x.hold.size<=20/\0<=x.op/\x.op<=5:=by
 unfold EU ED at h;simp only[Ak,decide_eq_true_eq,Hi]at h;obtain⟨⟨h1,h2,h3,h4,h5⟩,h6⟩:=h;refine⟨Ho h1,Ho h2,h3,h4,?_,?_⟩
 .rcases h5 with q|q
  .have:x.hold=⟨#[]⟩:=of_decide_eq_true q;rw[this];decide
  .exact Ho q
 .unfold Gi at h6;by_cases e1:x.op=1;.omega
  by_cases e2:x.op=2;.omega
  by_cases e3:x.op=3;.omega
  by_cases e4:x.op=4;.omega
  by_cases e5:x.op=5;.omega
  rw[if_neg e1,if_neg e2,if_neg e3,if_neg e4,if_neg e5]at h6;cases h6
theorem Ro{x:Wt}(h:SH x=true)(hv:x.ver<=9223372036854775807):(Lo x).size<=100:=by obtain⟨h1,h2,h3⟩:=dL h;have h4:=LW hv;rw[TP];omega
theorem Ry{x:Wr}(h:EU x=true)(hv:x.seen<=9223372036854775807):(Ls x).size<=1200:=by obtain⟨h1,h2,h3,h4,h5,h6,h7⟩:=dI h;have h8:=LW hv;have h9:=LW (n:=x.op) Zb;have h10:=aL x.text;rw[TG];omega
theorem QP (xs:List ByteArray):(K3 xs).length+1=(JQ xs).size:=by have h:=congrArg List.length (Hu xs);have e:(JQ xs).size=(JQ xs).data.toList.length:=Zc;rw[e,h];simp
theorem WV{u:Bu}(hb:Qr u)(hi:OX u):Yw u:=by
 refine⟨λi h=>?_,λi h=>?_⟩;.obtain⟨h1,h2,h3⟩:=dL (hb.ws i h);have h4:=Ro (hb.ws i h) (hi.w i h);have h5:=QP [⟨#[119,97,110,116]⟩,(u.ws i).kind,(u.ws i).name,DI (u.ws i).ver];have h6:(JQ [⟨#[119,97,110,116]⟩,(u.ws i).kind,(u.ws i).name,DI (u.ws i).ver]).size<=100:=h4;exact⟨Zb,Zb,h3,hi.w i h,Zb,Zb⟩
 .obtain⟨h1,h2,h3,h4,h5,h6,h7⟩:=dI (hb.rs i h);have h8:=Ry (hb.rs i h) (hi.r i h);have h9:=QP [⟨#[119,114,105,116,101]⟩,DI (u.rs i).op,(u.rs i).kind,(u.rs i).name,DI (u.rs i).seen,⟨(R4 (u.rs i).text).toArray⟩,(u.rs i).hold];have h10:(JQ [⟨#[119,114,105,116,101]⟩,DI (u.rs i).op,(u.rs i).kind,(u.rs i).name,DI (u.rs i).seen,⟨(R4 (u.rs i).text).toArray⟩,(u.rs i).hold]).size<=1200:=h8;exact⟨h6,Zb,h3,hi.r i h,Zb,Zb,Zb⟩
theorem Ta{u:Bu}(hb:Qr u)(hi:OX u):∀k,k<=u.wn->(TV u k).size<=100*k
 |0,_=>Az _
 |k+1,h=>by
  have h1:=Ta hb hi k Zb;have h2:=Ro (hb.ws k Zb) (hi.w k Zb);have e:(TV u (k+1)).size=(TV u k).size+(Lo (u.ws k)).size:=by simp[TV]
  omega
theorem XM{u:Bu}(hb:Qr u)(hi:OX u):∀k,k<=u.rn->(UX u k).size<=1000+1200*k
 |0,_=>by have h1:=Ta hb hi u.wn Bg;have:=hb.wn;show(TV u u.wn).size<=_;omega
 |k+1,h=>by
  have h1:=XM hb hi k Zb;have h2:=Ry (hb.rs k Zb) (hi.r k Zb);have e:(UX u (k+1)).size=(UX u k).size+(Ls (u.rs k)).size:=by simp[UX]
  omega
theorem cA{u:Bu}(hb:Qr u)(hi:OX u):gX u:=by have h1:=hb.wn;have h2:=hb.rn;exact⟨λk h=>by have:=Ta hb hi k h;omega,λk h=>by have:=XM hb hi k h;omega⟩
end Go.Proofs.YtofencldleijcaaGreat
