import Derived.Test.YtllmmkchokkaaaaGreatDoorPk39
import Derived.Test.YtllmmkchokkaaaaGreatDoorPk40
set_option maxRecDepth 100000
set_option maxHeartbeats 4000000
namespace Go.Proofs.YtllmmkchokkaaaaGreatDoor
open Go.RowKit Go.Maps Go.Proofs.Tryz
structure E2 (A D:Nat) (X:World):Prop where
 a:Bo X A 5
 d:Bo X D 3
theorem E2.grow{A D:Nat}{X Y:World}(h:E2 A D X) (hb:Below X.1.size X Y):E2 A D Y:=⟨h.a.fr (Aq (P:=λ_=>False) hb) (λq=>q),h.d.fr (Aq (P:=λ_=>False) hb) (λq=>q)⟩
theorem WU (w:World):Bo (w.alloc (.cells #[.i 0,.i 0,.l none 0 0,.l none 0 0,.l none 0 0] 35)) w.1.size 5:=⟨⟨_,AS (l:=[.i 0,.i 0,.l none 0 0,.l none 0 0,.l none 0 0]) (t:=35) BF⟩,λj s e=>by rw[At]at e;match j,e with
  |0,e=>cases e
  |1,e=>cases e
  |2,e=>cases e
  |3,e=>cases e
  |4,e=>cases e
  |n+5,e=>simp at e⟩
theorem VP (w:World):Bo (w.alloc (.cells #[.i 0,.i 0,.bool false] 66)) w.1.size 3:=⟨⟨_,AS (l:=[.i 0,.i 0,.bool false]) (t:=66) BF⟩,λj s e=>by rw[At]at e;match j,e with
  |0,e=>cases e
  |1,e=>cases e
  |2,e=>cases e
  |n+3,e=>simp at e⟩
def kN (S _C A D b off J:Nat) (B:Bk) (k:Ti) (c:Ca) (a1 a2:OA) (c1 c2 c3:Nat) (u1 u2:OA) (d1 d2:Nat) (_W:World) (i:Nat) (v:Value) (X:World):Prop:=match i with
 |0=>v=.agg (vB B a1 a2 (some ⟨b,off,none⟩) c1 c2 c3)
 |1=>v=.p S 4
 |2=>v=.l (some ⟨b,off,none⟩) B.tn c3
 |3=>v=.i (J:Nat)
 |4=>v=.pointer (some ⟨b,off+J*5,none⟩)
 |5=>v=.agg (vT k)
 |6=>v=.agg (vC c u1 u2 d1 d2)
 |7=>v=.agg (vS (ED k c))
 |8=>AH X A 5 (Bg (GB B a1 a2 (some ⟨b,off,none⟩) c1 c2 c3))
 |9=>AH X D 3 (Bg (TP (ED k c)))
 |_=>True
def WC (_S _C A D _b _off _J:Nat) (_B:Bk) (_k:Ti) (_c:Ca) (_a1 _a2:OA) (_c1 _c2 _c3:Nat) (_u1 _u2:OA) (_d1 _d2:Nat) (_W:World) (i q:Nat):Prop:=match i with
 |8=>q=A
 |9=>q=D
 |_=>False
theorem M7{P:Prop}(h:P:=by have h:=hK _ X rfl hEX (AP.refl _ _);refine Am rfl rfl ?_;clear hK hg;go_simp;simpa[AF]using h):P:=h
theorem dE{P:Prop}(h:P:=by rcases(show i=0\/i=1\/i=2\/i=3\/i=4\/i=5\/i=6\/i=7\/i=8\/i=9 by omega)with rfl|rfl|rfl|rfl|rfl|rfl|rfl|rfl|rfl|rfl<;>first|exact absurd rfl hij|exact h.fr hf (λe=>False.elim e)|exact h.fr hf (λe=>by have e':_=_:=e;omega)):P:=h
theorem pY{p0 p1 p7 p8 p9 Eb Es Eh El D8 Ej Ei EN EL EJ Ff Fe Fd Ev EK FA EU E9 Ez EV Fa Fb E8 Fc FM FD Fo Fz Fp Ft FC Fw Fy Fs Fu Fx Fq FE EY EP Hu Hi Hh Hg Iu Iv Iw Ic Ib H9 HJ IH ID IF IE IG IC I9 Ja Jt Js Jb Je Jc IX IV IW Jz JA Jy JZ J0 JX JY J3 J5 J4 J6 Ke Ki:Value}{mk:(Nat->Value)->Array Value}(t0:Nat->Value) (S C A D b off J:Nat) (B:Bk) (k:Ti) (c:Ca) (a1 a2:OA) (c1 c2 c3:Nat) (u1 u2:OA) (d1 d2:Nat) (W:World) (hS:S<W.1.size) (cS0:W.cell? ⟨S,0,none⟩=some (.i B.now)) (cS1:W.cell? ⟨S,1,none⟩=some (.i B.floor)) (cS2:W.cell? ⟨S,2,none⟩=some (.l a1 B.on c1)) (cS3:W.cell? ⟨S,3,none⟩=some (.l a2 B.hn c2)) (cS4:W.cell? ⟨S,4,none⟩=some (.l (some ⟨b,off,none⟩) B.tn c3)) (hC:C<W.1.size) (cC0:W.cell? ⟨C,0,none⟩=some (.s c.client)) (cC1:W.cell? ⟨C,1,none⟩=some (.i c.num)) (cC2:W.cell? ⟨C,2,none⟩=some (.l u1 c.bu.wn d1)) (cC3:W.cell? ⟨C,3,none⟩=some (.l u2 c.bu.rn d2)) (hA:Bo W A 5) (hD:Bo W D 3) (hAD:A<D) (hSA:S<A) (hCA:C<A) (hbA:b<A) (hb0:b<W.1.size) (hk:Hs W b (off+J*5) k) (hKn:J<B.tn) (lo hi:Nat) (hhi:hi<=A) (hu:Ek c.bu) (hp:Jg c.bu) (ht:L3 W) (hA2:2<A) (hin:CG W lo hi c.bu u1 u2) (hmk:mk=λt=>#[p0,p1,.p S 0,.p C 0,.p A 0,.p D 0,.i (J:Nat),p7,p8,p9,Eb,Es,Eh,El,D8,Ej,Ei,EN,EL,EJ,Ff,Fe,Fd,Ev,EK,FA,EU,E9,Ez,EV,Fa,Fb,E8,Fc,FM,FD,Fo,Fz,Fp,Ft,FC,Fw,Fy,Fs,Fu,Fx,Fq,FE,EY,EP,t 0,t 1,t 2,t 3,t 4,t 5,t 6,t 7,Hu,Hi,Hh,Hg,Iu,Iv,Iw,Ic,Ib,H9,HJ,IH,ID,IF,IE,IG,IC,I9,Ja,Jt,Js,Jb,Je,Jc,IX,IV,IW,Jz,JA,Jy,JZ,J0,JX,JY,J3,J5,J4,J6,Ke,Ki]) (Q:Exit->Act->World->Prop) (hQ:∀(t:Nat->Value) X,AP (λq=>q=A\/q=D) W X->(AH X A 5 (Bg (GB B a1 a2 (some ⟨b,off,none⟩) c1 c2 c3)))->(AH X D 3 (Bg (TP (ED k c))))->Q .normal ⟨mk t,[]⟩ X):Code.wp prog (rg Tryz.f63 7) Q ⟨mk t0,[]⟩ W:=by
 refine GM Zc 10 mk t0 (λX=>E2 A D X) (kN S C A D b off J B k c a1 a2 c1 c2 c3 u1 u2 d1 d2 W) (WC S C A D b off J B k c a1 a2 c1 c2 c3 u1 u2 d1 d2 W) (λq=>q=A\/q=D) Zc Zc rfl (E2.grow ⟨hA,hD⟩ (Bb (Ak W.1.size W))) ?_ ?_ ?_ ?_;all_goals subst hmk
 .intro i q h;unfold WC at h;split at h<;>first|exact h.elim|simp[h]
 .intro i j v X Y hi7 hj7 hij hEX h hf;rcases(show j=0\/j=1\/j=2\/j=3\/j=4\/j=5\/j=6\/j=7\/j=8\/j=9 by omega)with rfl|rfl|rfl|rfl|rfl|rfl|rfl|rfl|rfl|rfl;.exact h
  .exact h
  .exact h
  .exact h
  .exact h
  .exact h
  .exact h
  .exact h
  .exact dE
  .exact dE
 .intro i hi7 t X K hb hEX hg hK;rcases(show i=0\/i=1\/i=2\/i=3\/i=4\/i=5\/i=6\/i=7\/i=8\/i=9 by omega)with rfl|rfl|rfl|rfl|rfl|rfl|rfl|rfl|rfl|rfl;.have l0:=(hb.cell (p:=⟨S,0,none⟩) hS (λe=>by rcases e with e|e<;>(have e':S=_:=e;omega))).trans cS0;have l1:=(hb.cell (p:=⟨S,1,none⟩) hS (λe=>by rcases e with e|e<;>(have e':S=_:=e;omega))).trans cS1;have l2:=(hb.cell (p:=⟨S,2,none⟩) hS (λe=>by rcases e with e|e<;>(have e':S=_:=e;omega))).trans cS2;have l3:=(hb.cell (p:=⟨S,3,none⟩) hS (λe=>by rcases e with e|e<;>(have e':S=_:=e;omega))).trans cS3;have l4:=(hb.cell (p:=⟨S,4,none⟩) hS (λe=>by rcases e with e|e<;>(have e':S=_:=e;omega))).trans cS4;have zS:=Aa hS hb.size;exact M7
  .exact M7
  .have e1:t 1=_:=hg 1 (AX rfl);have l4:=(hb.cell (p:=⟨S,4,none⟩) hS (λe=>by rcases e with e|e<;>(have e':S=_:=e;omega))).trans cS4;have zS:=Aa hS hb.size;have h:=hK _ X rfl hEX (AP.refl _ _);refine Am rfl rfl ?_;clear hK hg;go_simp;simpa[AF,e1]using h
  .exact M7
  .have e2:t 2=_:=hg 2 (AX rfl);have e3:t 3=_:=hg 3 (AX rfl);have h:=hK _ X rfl hEX (AP.refl _ _);refine Am rfl rfl ?_;clear hK hg;go_simp;simpa[AF,e2,e3]using h
  .have e4:t 4=_:=hg 4 (AX rfl);have tk:=hk;have cc:∀{j u},W.cell? ⟨b,j,none⟩=some u->X.cell? ⟨b,j,none⟩=some u:=λ{j u}q=>(hb.cell (p:=⟨b,j,none⟩) hb0 (λe=>by rcases e with e|e<;>(have e':b=_:=e;omega))).trans q;have l0:=cc hk.c0;have l1:=cc hk.c1;have l2:=cc hk.c2;have l3:=cc hk.c3;have l4:=cc hk.c4;have zb:=Aa hb0 hb.size;clear cc tk;have h:=hK _ X rfl hEX (AP.refl _ _);refine Am rfl rfl ?_;clear hK hg;go_simp;simpa[AF,e4]using h
  .have l0:=(hb.cell (p:=⟨C,0,none⟩) hC (λe=>by rcases e with e|e<;>(have e':C=_:=e;omega))).trans cC0;have l1:=(hb.cell (p:=⟨C,1,none⟩) hC (λe=>by rcases e with e|e<;>(have e':C=_:=e;omega))).trans cC1;have l2:=(hb.cell (p:=⟨C,2,none⟩) hC (λe=>by rcases e with e|e<;>(have e':C=_:=e;omega))).trans cC2;have l3:=(hb.cell (p:=⟨C,3,none⟩) hC (λe=>by rcases e with e|e<;>(have e':C=_:=e;omega))).trans cC3;have zC:=Aa hC hb.size;exact M7
  .have e5:t 5=_:=hg 5 (AX rfl);have e6:t 6=_:=hg 6 (AX rfl);refine Am rfl rfl ?_;have HK:=Ai hK;clear hK hg;go_simp;go_at_call 120;refine(P2 k c u1 u2 d1 d2 X lo hi (by have:=hA.lt;have:=hb.size;omega) hu hp (ht.low (hb.below (B:=A) (λq hq e=>by rcases e with e|e<;>(have e':q=_:=e;omega)) (Br hA.lt)) hA2) (hin.below (hb.below (B:=A) (λq hq e=>by rcases e with e|e<;>(have e':q=_:=e;omega)) (Br hA.lt)) hhi)).mono ?_;rintro r Y ⟨rfl,hbY⟩;have h:=HK _ Y rfl (hEX.grow hbY) (Aq hbY);simpa[AF,e5,e6]using h
  .have e0:t 0=_:=hg 0 (AX rfl);obtain⟨q,r⟩:=hEX.a.row;have k0:=r.cell 0 Za;have k1:=r.cell 1 Za;have k2:=r.cell 2 Za;have k3:=r.cell 3 Za;have k4:=r.cell 4 Za;have kf:=r.free;have kz:=r.lt;have h:=hK undef (((((X.setCell ⟨A,0,none⟩ (.i B.now)).setCell ⟨A,1,none⟩ (.i B.floor)).setCell ⟨A,2,none⟩ (.l a1 B.on c1)).setCell ⟨A,3,none⟩ (.l a2 B.hn c2)).setCell ⟨A,4,none⟩ (.l (some ⟨b,off,none⟩) B.tn c3)) (MI r) ⟨hEX.a.set5 (λ_ h=>by cases h) (λ_ h=>by cases h) (λ_ h=>by cases h) (λ_ h=>by cases h) (λ_ h=>by cases h),hEX.d.fr (Nz (.i B.now) (.i B.floor) (.l a1 B.on c1) (.l a2 B.hn c2) (.l (some ⟨b,off,none⟩) B.tn c3)) (λe=>by have e':D=A:=e;omega)⟩ (Nz (.i B.now) (.i B.floor) (.l a1 B.on c1) (.l a2 B.hn c2) (.l (some ⟨b,off,none⟩) B.tn c3));refine Am rfl rfl ?_;clear hK hg;go_simp;simpa[AF,e0]using h
  .have e7:t 7=_:=hg 7 (AX rfl);obtain⟨q,r⟩:=hEX.d.row;have k0:=r.cell 0 Za;have k1:=r.cell 1 Za;have k2:=r.cell 2 Za;have kf:=r.free;have kz:=r.lt;have h:=hK undef (((X.setCell ⟨D,0,none⟩ (.i (ED k c).code)).setCell ⟨D,1,none⟩ (.i (ED k c).ver)).setCell ⟨D,2,none⟩ (.bool (ED k c).again)) (Oh r) ⟨hEX.a.fr (Rm (.i (ED k c).code) (.i (ED k c).ver) (.bool (ED k c).again)) (λe=>by have e':A=D:=e;omega),hEX.d.set3 (λ_ h=>by cases h) (λ_ h=>by cases h) (λ_ h=>by cases h)⟩ (Rm (.i (ED k c).code) (.i (ED k c).ver) (.bool (ED k c).again));refine Am rfl rfl ?_;clear hK hg;go_simp;simpa[AF,e7]using h
 .intro t X hb hEX hg;exact hQ t X hb (hg 8 Za) (hg 9 Za)
def iD (_N _M A D:Nat) (Y:Bk) (a1 a2 a3:OA) (c1 c2 c3:Nat) (s:Sa) (_W:World) (i:Nat) (v:Value) (X:World):Prop:=match i with
 |0=>v=.agg (vB Y a1 a2 a3 c1 c2 c3)
 |1=>v=.agg (vS s)
 |2=>AH X A 5 (Bg (GB Y a1 a2 a3 c1 c2 c3))
 |3=>AH X D 3 (Bg (TP s))
 |_=>True
def T9 (_N _M A D:Nat) (_Y:Bk) (_a1 _a2 _a3:OA) (_c1 _c2 _c3:Nat) (_s:Sa) (_W:World) (i q:Nat):Prop:=match i with
 |2=>q=A
 |3=>q=D
 |_=>False
theorem Z7{P:Prop}(h:P:=by rcases(show i=0\/i=1\/i=2\/i=3 by omega)with rfl|rfl|rfl|rfl<;>first|exact absurd rfl hij|exact h.fr hf (λe=>False.elim e)|exact h.fr hf (λe=>by have e':_=_:=e;omega)):P:=h
theorem lV{p0 p1 p2 p3 p6 p7 p8 p9 Eh El D8 Ej Ei EN EL EJ Ff Fe Fd Ev EK FA EU E9 Ez EV Fa Fb E8 Fc FM FD Fo Fz Fp Ft FC Fw Fy Fs Fu Fx Fq FE EY EP FQ GP GO Gj Gk Gm Ir Iq Hu Hi Hh Hg Iu Iv Iw Ic Ib H9 HJ IH ID IF IE IG IC I9 Ja Jt Js Jb Je Jc IX IV IW Jz JA Jy JZ J0 JX JY J3 J5 J4 J6:Value}{mk:(Nat->Value)->Array Value}(t0:Nat->Value) (N M A D:Nat) (Y:Bk) (a1 a2 a3:OA) (c1 c2 c3:Nat) (s:Sa) (W:World) (hN:N<W.1.size) (cN0:W.cell? ⟨N,0,none⟩=some (.i Y.now)) (cN1:W.cell? ⟨N,1,none⟩=some (.i Y.floor)) (cN2:W.cell? ⟨N,2,none⟩=some (.l a1 Y.on c1)) (cN3:W.cell? ⟨N,3,none⟩=some (.l a2 Y.hn c2)) (cN4:W.cell? ⟨N,4,none⟩=some (.l a3 Y.tn c3)) (hM:M<W.1.size) (cM0:W.cell? ⟨M,0,none⟩=some (.i s.code)) (cM1:W.cell? ⟨M,1,none⟩=some (.i s.ver)) (cM2:W.cell? ⟨M,2,none⟩=some (.bool s.again)) (hA:Bo W A 5) (hD:Bo W D 3) (hAD:A<D) (hNA:D<N) (hMA:D<M) (hmk:mk=λt=>#[p0,p1,p2,p3,.p A 0,.p D 0,p6,p7,p8,p9,.p N 0,.p M 0,Eh,El,D8,Ej,Ei,EN,EL,EJ,Ff,Fe,Fd,Ev,EK,FA,EU,E9,Ez,EV,Fa,Fb,E8,Fc,FM,FD,Fo,Fz,Fp,Ft,FC,Fw,Fy,Fs,Fu,Fx,Fq,FE,EY,EP,FQ,GP,GO,Gj,Gk,Gm,Ir,Iq,Hu,Hi,Hh,Hg,Iu,Iv,Iw,Ic,Ib,H9,HJ,IH,ID,IF,IE,IG,IC,I9,Ja,Jt,Js,Jb,Je,Jc,IX,IV,IW,Jz,JA,Jy,JZ,J0,JX,JY,J3,J5,J4,J6,t 0,t 1]) (Q:Exit->Act->World->Prop) (hQ:∀(t:Nat->Value) X,AP (λq=>q=A\/q=D) W X->(AH X A 5 (Bg (GB Y a1 a2 a3 c1 c2 c3)))->(AH X D 3 (Bg (TP s)))->Q .normal ⟨mk t,[]⟩ X):Code.wp prog (rg Tryz.f63 15) Q ⟨mk t0,[]⟩ W:=by
 refine GM Zc 4 mk t0 (λX=>E2 A D X) (iD N M A D Y a1 a2 a3 c1 c2 c3 s W) (T9 N M A D Y a1 a2 a3 c1 c2 c3 s W) (λq=>q=A\/q=D) Zc Zc rfl (E2.grow ⟨hA,hD⟩ (Bb (Ak W.1.size W))) ?_ ?_ ?_ ?_;all_goals subst hmk
 .intro i q h;unfold T9 at h;split at h<;>first|exact h.elim|simp[h]
 .intro i j v X Y hi7 hj7 hij hEX h hf;rcases(show j=0\/j=1\/j=2\/j=3 by omega)with rfl|rfl|rfl|rfl;.exact h
  .exact h
  .exact Z7
  .exact Z7
 .intro i hi7 t X K hb hEX hg hK;rcases(show i=0\/i=1\/i=2\/i=3 by omega)with rfl|rfl|rfl|rfl;.have l0:=(hb.cell (p:=⟨N,0,none⟩) hN (λe=>by rcases e with e|e<;>(have e':N=_:=e;omega))).trans cN0;have l1:=(hb.cell (p:=⟨N,1,none⟩) hN (λe=>by rcases e with e|e<;>(have e':N=_:=e;omega))).trans cN1;have l2:=(hb.cell (p:=⟨N,2,none⟩) hN (λe=>by rcases e with e|e<;>(have e':N=_:=e;omega))).trans cN2;have l3:=(hb.cell (p:=⟨N,3,none⟩) hN (λe=>by rcases e with e|e<;>(have e':N=_:=e;omega))).trans cN3;have l4:=(hb.cell (p:=⟨N,4,none⟩) hN (λe=>by rcases e with e|e<;>(have e':N=_:=e;omega))).trans cN4;have zN:=Aa hN hb.size;exact M7
  .have l0:=(hb.cell (p:=⟨M,0,none⟩) hM (λe=>by rcases e with e|e<;>(have e':M=_:=e;omega))).trans cM0;have l1:=(hb.cell (p:=⟨M,1,none⟩) hM (λe=>by rcases e with e|e<;>(have e':M=_:=e;omega))).trans cM1;have l2:=(hb.cell (p:=⟨M,2,none⟩) hM (λe=>by rcases e with e|e<;>(have e':M=_:=e;omega))).trans cM2;have zM:=Aa hM hb.size;exact M7
  .have e0:t 0=_:=hg 0 (AX rfl);obtain⟨q,r⟩:=hEX.a.row;have k0:=r.cell 0 Za;have k1:=r.cell 1 Za;have k2:=r.cell 2 Za;have k3:=r.cell 3 Za;have k4:=r.cell 4 Za;have kf:=r.free;have kz:=r.lt;have h:=hK undef (((((X.setCell ⟨A,0,none⟩ (.i Y.now)).setCell ⟨A,1,none⟩ (.i Y.floor)).setCell ⟨A,2,none⟩ (.l a1 Y.on c1)).setCell ⟨A,3,none⟩ (.l a2 Y.hn c2)).setCell ⟨A,4,none⟩ (.l a3 Y.tn c3)) (MI r) ⟨hEX.a.set5 (λ_ h=>by cases h) (λ_ h=>by cases h) (λ_ h=>by cases h) (λ_ h=>by cases h) (λ_ h=>by cases h),hEX.d.fr (Nz (.i Y.now) (.i Y.floor) (.l a1 Y.on c1) (.l a2 Y.hn c2) (.l a3 Y.tn c3)) (λe=>by have e':D=A:=e;omega)⟩ (Nz (.i Y.now) (.i Y.floor) (.l a1 Y.on c1) (.l a2 Y.hn c2) (.l a3 Y.tn c3));refine Am rfl rfl ?_;clear hK hg;go_simp;simpa[AF,e0]using h
  .have e1:t 1=_:=hg 1 (AX rfl);obtain⟨q,r⟩:=hEX.d.row;have k0:=r.cell 0 Za;have k1:=r.cell 1 Za;have k2:=r.cell 2 Za;have kf:=r.free;have kz:=r.lt;have h:=hK undef (((X.setCell ⟨D,0,none⟩ (.i s.code)).setCell ⟨D,1,none⟩ (.i s.ver)).setCell ⟨D,2,none⟩ (.bool s.again)) (Oh r) ⟨hEX.a.fr (Rm (.i s.code) (.i s.ver) (.bool s.again)) (λe=>by have e':A=D:=e;omega),hEX.d.set3 (λ_ h=>by cases h) (λ_ h=>by cases h) (λ_ h=>by cases h)⟩ (Rm (.i s.code) (.i s.ver) (.bool s.again));refine Am rfl rfl ?_;clear hK hg;go_simp;simpa[AF,e1]using h
 .intro t X hb hEX hg;exact hQ t X hb (hg 2 Za) (hg 3 Za)
def bX (E:Nat) (Y:Bk) (C0 V0:Int) (a1 a2 a3:OA) (c1 c2 c3:Nat) (_W:World) (i:Nat) (v:Value) (_X:World):Prop:=match i with
 |0=>v=.p E 1
 |1=>v=.agg (vB Y a1 a2 a3 c1 c2 c3)
 |2=>v=.p E 0
 |3=>v=.i C0
 |4=>v=.p E 6
 |5=>v=.i V0
 |6=>v=.agg #[.i C0,.i V0,.bool false]
 |_=>True
theorem dQ{P:Prop}(h:P:=by
  rcases(show i=0\/i=1\/i=2\/i=3\/i=4\/i=5\/i=6\/i=7\/i=8\/i=9\/i=10 by omega)with rfl|rfl|rfl|rfl|rfl|rfl|rfl|rfl|rfl|rfl|rfl;.exact h
  .exact h
  .exact h
  .exact h
  .exact h
  .exact h
  .exact h
  .exact h
  .exact h
  .exact h
  .exact h):P:=h
theorem WQ{p0 p1 p2 p3 p4 p5 p6 p7 p9 Eh El D8 Ej Ei EN EL EJ Ff Fe Fd Ev EK FA EU E9 Ez EV Fa Fb E8 Fc FM FD Fo Fz Fp Ft FC Fw Fy Fs Fu Fx Fq FE EY EP FQ GP GO Gj Gk Gm Ir Iq Hu Hi Hh Hg Iu Iv Iw Ic Ib H9 HJ IH ID IF IE IG IC IX IV IW Jz JA Jy JZ J0 JX JY J3 J5 J4 J6 Ke Ki:Value}{mk:(Nat->Value)->Array Value}(t0:Nat->Value) (E:Nat) (Y:Bk) (C0 V0:Int) (a1 a2 a3:OA) (c1 c2 c3:Nat) (W:World) (hE:E<W.1.size) (cE0:W.cell? ⟨E,0,none⟩=some (.i C0)) (cE1:W.cell? ⟨E,1,none⟩=some (.i Y.now)) (cE2:W.cell? ⟨E,2,none⟩=some (.i Y.floor)) (cE3:W.cell? ⟨E,3,none⟩=some (.slice a1 Y.on c1)) (cE4:W.cell? ⟨E,4,none⟩=some (.slice a2 Y.hn c2)) (cE5:W.cell? ⟨E,5,none⟩=some (.slice a3 Y.tn c3)) (cE6:W.cell? ⟨E,6,none⟩=some (.i V0)) (hmk:mk=λt=>#[p0,p1,p2,p3,p4,p5,p6,p7,.p E 0,p9,t 7,t 8,Eh,El,D8,Ej,Ei,EN,EL,EJ,Ff,Fe,Fd,Ev,EK,FA,EU,E9,Ez,EV,Fa,Fb,E8,Fc,FM,FD,Fo,Fz,Fp,Ft,FC,Fw,Fy,Fs,Fu,Fx,Fq,FE,EY,EP,FQ,GP,GO,Gj,Gk,Gm,Ir,Iq,Hu,Hi,Hh,Hg,Iu,Iv,Iw,Ic,Ib,H9,HJ,IH,ID,IF,IE,IG,IC,t 0,t 1,t 2,t 3,t 4,t 5,t 6,IX,IV,IW,Jz,JA,Jy,JZ,J0,JX,JY,J3,J5,J4,J6,Ke,Ki]) (Q:Exit->Act->World->Prop) (hQ:∀(t:Nat->Value) X z y,Below W.1.size W X->t 7=.p z 0->t 8=.p y 0->W.1.size<=z->W.1.size<=y->¬z=y->Bo X z 5->Bo X y 3->(AH X z 5 (Bg (GB Y a1 a2 a3 c1 c2 c3)))->(AH X y 3 (Bg [.i C0,.i V0,.bool false]))->Q .normal ⟨mk t,[]⟩ X):Code.wp prog (rg Tryz.f63 11) Q ⟨mk t0,[]⟩ W:=by
 refine lT Zc 11 7 8 9 10 5 3 1 6 mk t0 (bX E Y C0 V0 a1 a2 a3 c1 c2 c3 W) (λz v X=>AH X z 5 (Bg (GB Y a1 a2 a3 c1 c2 c3))) (λz v X=>AH X z 3 (Bg [.i C0,.i V0,.bool false])) Zc Zb Zc ⟨(AX rfl),(AX rfl)⟩ ⟨(AX rfl),(AX rfl)⟩ ?_ ?_ ?_ ?_ ?_ ?_ rfl ?_ ?_ ?_ ?_ ?_ ?_;all_goals subst hmk
 .intro i v X Y hi7 h hb;exact dQ
 .intro i v X Y z hi7 h hno hf;exact dQ
 .intro z v X Y h hz hb;exact h.below hb hz
 .intro z v X Y y h hz hy hno hf;exact h.fr hf hy
 .intro z v X Y h hz hb;exact h.below hb hz
 .intro z v X Y y h hz hy hno hf;exact h.fr hf hy
 .intro i hi7 ka kb ks1 ks2 t X K hb hg hK;rcases(show i=0\/i=1\/i=2\/i=3\/i=4\/i=5\/i=6 by omega)with rfl|rfl|rfl|rfl|rfl|rfl|rfl;.exact sg
  .have ea:t 0=_:=hg 0 (AX rfl) Zb Zb Zb Zb;have l1:=(hb.cell (p:=⟨E,1,none⟩) hE).trans cE1;have l2:=(hb.cell (p:=⟨E,2,none⟩) hE).trans cE2;have l3:=(hb.cell (p:=⟨E,3,none⟩) hE).trans cE3;have l4:=(hb.cell (p:=⟨E,4,none⟩) hE).trans cE4;have l5:=(hb.cell (p:=⟨E,5,none⟩) hE).trans cE5;have zE:=Aa hE hb.size;exact sg
  .exact sg
  .have ea:t 2=_:=hg 2 (AX rfl) Zb Zb Zb Zb;have l0:=(hb.cell (p:=⟨E,0,none⟩) hE).trans cE0;have zE:=Aa hE hb.size;exact sg
  .exact sg
  .have ea:t 4=_:=hg 4 (AX rfl) Zb Zb Zb Zb;have l6:=(hb.cell (p:=⟨E,6,none⟩) hE).trans cE6;have zE:=Aa hE hb.size;exact sg
  .have ea:t 3=_:=hg 3 (AX rfl) Zb Zb Zb Zb;have eb:t 5=_:=hg 5 (AX rfl) Zb Zb Zb Zb;exact sg
 .intro t X K hK;have h:=hK (X.alloc (.cells #[.i 0,.i 0,.l none 0 0,.l none 0 0,.l none 0 0] 35)) (WU X) FU;refine Am rfl rfl ?_;clear hK;go_simp;simpa[AF]using h
 .intro t X K hK;have h:=hK (X.alloc (.cells #[.i 0,.i 0,.bool false] 66)) (VP X) FU;refine Am rfl rfl ?_;clear hK;go_simp;simpa[AF]using h
 .intro t X K z ez hBo hG hK;obtain⟨q,r⟩:=hBo.row;have k0:=r.cell 0 Za;have k1:=r.cell 1 Za;have k2:=r.cell 2 Za;have k3:=r.cell 3 Za;have k4:=r.cell 4 Za;have kf:=r.free;have kz:=r.lt;have e1:t 1=.agg (vB Y a1 a2 a3 c1 c2 c3):=hG;have h:=hK undef (((((X.setCell ⟨z,0,none⟩ (.i Y.now)).setCell ⟨z,1,none⟩ (.i Y.floor)).setCell ⟨z,2,none⟩ (.l a1 Y.on c1)).setCell ⟨z,3,none⟩ (.l a2 Y.hn c2)).setCell ⟨z,4,none⟩ (.l a3 Y.tn c3)) (MI r) (hBo.set5 (λ_ h=>by cases h) (λ_ h=>by cases h) (λ_ h=>by cases h) (λ_ h=>by cases h) (λ_ h=>by cases h)) (Nz (.i Y.now) (.i Y.floor) (.l a1 Y.on c1) (.l a2 Y.hn c2) (.l a3 Y.tn c3));refine Am rfl rfl ?_;clear hK hG;simp only[ez,e1];go_simp;simpa[AF,ez,e1]using h
 .intro t X K z ez hBo hG hK;obtain⟨q,r⟩:=hBo.row;have k0:=r.cell 0 Za;have k1:=r.cell 1 Za;have k2:=r.cell 2 Za;have kf:=r.free;have kz:=r.lt;have e1:t 6=.agg #[.i C0,.i V0,.bool false]:=hG;have h:=hK undef (((X.setCell ⟨z,0,none⟩ (.i C0)).setCell ⟨z,1,none⟩ (.i V0)).setCell ⟨z,2,none⟩ (.bool false)) (Oh r) (hBo.set3 (λ_ h=>by cases h) (λ_ h=>by cases h) (λ_ h=>by cases h)) (Rm (.i C0) (.i V0) (.bool false));refine Am rfl rfl ?_;clear hK hG;simp only[ez,e1];go_simp;simpa[AF,ez,e1]using h
 .exact hQ
def iN (N _M _C J m:Nat) (x:Nat->Ti) (c:Ca) (s:Sa) (ad:OA) (cp:Nat) (u1 u2:OA) (d1 d2:Nat) (W:World) (i:Nat) (v:Value) (X:World):Prop:=match i with
 |0=>v=.p N 4
 |1=>v=.l ad m cp
 |2=>v=.i (J:Nat)
 |3=>v=.agg (vC c u1 u2 d1 d2)
 |4=>v=.agg (vS s)
 |5=>v=.agg #[.s c.client,.i c.num,.s (He c.bu),.i s.code,.i s.ver]
 |6=>∃ad' cp',v=.l ad' (m+1:Nat) cp'/\B8 X W.1.size X.1.size ad' (m+1) (Oj x J ⟨c.client,c.num,He c.bu,s.code,s.ver⟩)
 |7=>v=.p N 4
 |_=>True
theorem WL{p0 p1 p2 p4 p5 p7 p8 p9 Eh El D8 Ej Ei EN EL EJ Ff Fe Fd Ev EK FA EU E9 Ez EV Fa Fb E8 Fc FM FD Fo Fz Fp Ft FC Fw Fy Fs Fu Fx Fq FE EY EP FQ GP GO Gj Gk Gm Ir Iq Hu Hi Hh Hg Iu Iv Iw Ic Ib H9 HJ IH ID IF IE IG IC I9 Ja Jt Js Jb Je Jc IX IV IW Jz JA Jy Ke Ki:Value}{mk:(Nat->Value)->Array Value}(t0:Nat->Value) (N M C J m:Nat) (x:Nat->Ti) (c:Ca) (s:Sa) (ad:OA) (cp:Nat) (u1 u2:OA) (d1 d2:Nat) (W:World) (q0 q1 q2 q3:Value) (hNr:AH W N 5 (Bg [q0,q1,q2,q3,.l ad m cp])) (hM:M<W.1.size) (cM0:W.cell? ⟨M,0,none⟩=some (.i s.code)) (cM1:W.cell? ⟨M,1,none⟩=some (.i s.ver)) (cM2:W.cell? ⟨M,2,none⟩=some (.bool s.again)) (hC:C<W.1.size) (cC0:W.cell? ⟨C,0,none⟩=some (.s c.client)) (cC1:W.cell? ⟨C,1,none⟩=some (.i c.num)) (cC2:W.cell? ⟨C,2,none⟩=some (.l u1 c.bu.wn d1)) (cC3:W.cell? ⟨C,3,none⟩=some (.l u2 c.bu.rn d2)) (lo hi:Nat) (hhi:hi<=W.1.size) (hu:Ek c.bu) (hp:Jg c.bu) (ht:L3 W) (hin:CG W lo hi c.bu u1 u2) (lt ht2:Nat) (hht:ht2<=W.1.size) (htic:B8 W lt ht2 ad m x) (hcg:Du W m ad cp) (hKm:J<=m) (hm:m<=1000) (hmk:mk=λt=>#[p0,p1,p2,.p C 0,p4,p5,.i (J:Nat),p7,p8,p9,.p N 0,.p M 0,Eh,El,D8,Ej,Ei,EN,EL,EJ,Ff,Fe,Fd,Ev,EK,FA,EU,E9,Ez,EV,Fa,Fb,E8,Fc,FM,FD,Fo,Fz,Fp,Ft,FC,Fw,Fy,Fs,Fu,Fx,Fq,FE,EY,EP,FQ,GP,GO,Gj,Gk,Gm,Ir,Iq,Hu,Hi,Hh,Hg,Iu,Iv,Iw,Ic,Ib,H9,HJ,IH,ID,IF,IE,IG,IC,I9,Ja,Jt,Js,Jb,Je,Jc,IX,IV,IW,Jz,JA,Jy,t 0,t 1,t 2,t 3,t 4,t 5,t 6,t 7,Ke,Ki]) (Q:Exit->Act->World->Prop) (hQ:∀(t:Nat->Value) X0 ad' cp',Below W.1.size W X0->B8 X0 W.1.size X0.1.size ad' (m+1) (Oj x J ⟨c.client,c.num,He c.bu,s.code,s.ver⟩)->Q .normal ⟨mk t,[]⟩ (X0.setCell ⟨N,4,none⟩ (.l ad' (m+1:Nat) cp'))):Code.wp prog (rg Tryz.f63 14) Q ⟨mk t0,[]⟩ W:=by
 refine Et Zc 8 mk t0 (iN N M C J m x c s ad cp u1 u2 d1 d2 W) (λa X=>∃(t:Nat->Value) (X0:World) (ad':OA) (cp':Nat),a=⟨mk t,[]⟩/\Below W.1.size W X0/\X=X0.setCell ⟨N,4,none⟩ (.l ad' (m+1:Nat) cp')/\B8 X0 W.1.size X0.1.size ad' (m+1) (Oj x J ⟨c.client,c.num,He c.bu,s.code,s.ver⟩)) Zc Zc Zc ?_ rfl ?_ ?_ ?_;all_goals subst hmk
 .intro i v X Y hi7 h hb;rcases(show i=0\/i=1\/i=2\/i=3\/i=4\/i=5\/i=6\/i=7 by omega)with rfl|rfl|rfl|rfl|rfl|rfl|rfl|rfl;.exact h
  .exact h
  .exact h
  .exact h
  .exact h
  .exact h
  .obtain⟨ad',cp',e1,e2⟩:=h;exact⟨ad',cp',e1,e2.frLo (Aq (P:=λ_=>False) hb) (λ_ _ q=>q) Bj hb.size⟩
  .exact h
 .intro i hi7 t X K hb hg hK;rcases(show i=0\/i=1\/i=2\/i=3\/i=4\/i=5\/i=6\/i=7 by omega)with rfl|rfl|rfl|rfl|rfl|rfl|rfl|rfl;.exact sg
  .have ea:t 0=_:=hg 0 (AX rfl);have l4:X.cell? ⟨N,4,none⟩=some (.slice ad m cp):=(hb.cell (p:=⟨N,4,none⟩) hNr.lt).trans (hNr.cell 4 Za);have zN:=Aa hNr.lt hb.size;exact sg
  .exact sg
  .have l0:=(hb.cell (p:=⟨C,0,none⟩) hC).trans cC0;have l1:=(hb.cell (p:=⟨C,1,none⟩) hC).trans cC1;have l2:=(hb.cell (p:=⟨C,2,none⟩) hC).trans cC2;have l3:=(hb.cell (p:=⟨C,3,none⟩) hC).trans cC3;have zC:=Aa hC hb.size;exact sg
  .have l0:=(hb.cell (p:=⟨M,0,none⟩) hM).trans cM0;have l1:=(hb.cell (p:=⟨M,1,none⟩) hM).trans cM1;have l2:=(hb.cell (p:=⟨M,2,none⟩) hM).trans cM2;have zM:=Aa hM hb.size;exact sg
  .have e3:t 3=_:=hg 3 (AX rfl);have e4:t 4=_:=hg 4 (AX rfl);refine Am rfl rfl ?_;have HK:=Ai hK;clear hK hg;go_simp;go_at_call 123;refine(R9 s c u1 u2 d1 d2 X lo hi (AA hhi hb.size) hu hp (ht.below hb) (hin.below hb hhi)).mono ?_;rintro r Y ⟨rfl,hbY⟩;have h:=HK _ Y rfl hbY;simpa[AF,e3,e4]using h
  .have e1:t 1=_:=hg 1 (AX rfl);have e2:t 2=_:=hg 2 (AX rfl);have e5:t 5=_:=hg 5 (AX rfl);refine Am rfl rfl ?_;have HK:=Ai hK;clear hK hg;go_simp;go_at_call 122;refine(Tw m x ad cp J ⟨c.client,c.num,He c.bu,s.code,s.ver⟩ X lt ht2 (htic.below hb hht) (hcg.grow hb.size) hKm Za).mono ?_;rintro r Y ⟨ad',cp',rfl,htY,hbY⟩;have h:=HK (.l ad' (m+1:Nat) cp') Y ⟨ad',cp',rfl,(htY.dn hb.size)⟩ hbY;simpa[AF,e1,e2,e5]using h
  .exact sg
 .intro t X K hb hg hK;have e7:t 7=_:=hg 7 Za;obtain⟨ad',cp',e6,h6⟩:∃ad' cp',t 6=.l ad' (m+1:Nat) cp'/\B8 X W.1.size X.1.size ad' (m+1) (Oj x J ⟨c.client,c.num,He c.bu,s.code,s.ver⟩):=hg 6 Za;have k4:X.cell? ⟨N,4,none⟩=some (.slice ad m cp):=(hb.cell (p:=⟨N,4,none⟩) hNr.lt).trans (hNr.cell 4 Za);have kf:=(hb.frozen (p:=⟨N,4,none⟩) hNr.lt).trans (hNr.free 4);have kz:=Aa hNr.lt hb.size;have h:=hK _ _ ⟨t,X,ad',cp',rfl,hb,rfl,h6⟩;refine Am rfl rfl ?_;clear hK hg;simp only[e6,e7];go_simp;simpa[e6,e7]using h
 .rintro a X ⟨t,X0,ad',cp',rfl,hb,rfl,h6⟩;exact hQ t X0 ad' cp' hb h6
end Go.Proofs.YtllmmkchokkaaaaGreatDoor
