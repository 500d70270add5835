import Derived.Test.YtdknjmgdgnmhjaaGreatPk47
import Derived.Test.YtdknjmgdgnmhjaaGreatPk40
set_option maxRecDepth 100000
set_option maxHeartbeats 8000000
namespace Go.Proofs.YtdknjmgdgnmhjaaGreat
open Go.RowKit Go.Proofs.Tryz
variable {X Z w w1 w3:World}{y Y:Bk}{b1 b2 b3 ad am:OA}{U:Nat→Prop}{z n cp A C Bb lo k1 k2 k3 nn cq:Nat}{t1 t2 s1 s2 ki pr:ByteArray}{nw sn:Int}{p0 p1 p7 p8 p9 Ea Ee Em D1 DW DN DU DX DO DP DV:Value}{mk:(Nat→Value)→Array Value}
structure N5 (X:World) (y:Bk) (b1 b2 b3:OA):Prop where
 i:BL X 0 X.1.size y b1 b2 b3
 f:BS y
 s:Sz y
theorem N5.fr (h:N5 X y b1 b2 b3) (hF:AB U X Z) (hn:∀q,U q->IC X q):N5 Z y b1 b2 b3:=⟨(h.i.boxP hF hn A9).upTo hF.size,h.f,h.s⟩
theorem N5.put{u1 u2:Int}{n1 c1:Nat}(h:N5 X y b1 b2 b3) (hr:AE X z 5 (AV [.s t1,.s t2,.i u1,.l ad n1 c1,.i u2])) (hs:LL X z) (hF:AB (λq=>q=z) X Z) (hz:AE Z z 5 (AV [.s s1,.s s2,.i nw,.l am n cp,.i sn])) (h1:s1.size<=8) (h2:s2.size<=8):∃y',(y'.v=y.v/\y'.f=y.f)/\(y'.on=y.on/\y'.hn=y.hn/\y'.tn=y.tn)/\N5 Z y' b1 b2 b3:=by
 have ht:l_ X Z z:=by
  refine⟨hF,λj s e=>?_,λj b e=>?_⟩;.match j with
   |0=>exact⟨s1,hz.cell 0 Zb,Za⟩
   |1=>exact⟨s2,hz.cell 1 Zb,Za⟩
   |2=>exact absurd ((hr.cell 2 Zb).symm.trans e) XY
   |3=>exact absurd ((hr.cell 3 Zb).symm.trans e) XY
   |4=>exact absurd ((hr.cell 4 Zb).symm.trans e) XY
   |j+5=>exact absurd ((hs (j+5) Za).symm.trans e) Ze
  .match j with
   |0=>exact absurd ((hr.cell 0 Zb).symm.trans e) XY
   |1=>exact absurd ((hr.cell 1 Zb).symm.trans e) XY
   |2=>exact absurd ((hr.cell 2 Zb).symm.trans e) XY
   |3=>exact absurd ((hr.cell 3 Zb).symm.trans e) XY
   |4=>exact absurd ((hr.cell 4 Zb).symm.trans e) XY
   |j+5=>exact absurd ((hs (j+5) Za).symm.trans e) Ze
 have kj:∀x o,¬Ji X z o x:=λx o e=>by match o,e with
  |0,e=>exact absurd ((hr.cell 1 Zb).symm.trans e.c1) XY
  |o+1,e=>exact absurd ((hs (o+1+4) Za).symm.trans e.c4) Ze
 obtain⟨y',e1,e2,hi,hf⟩:=ht.book kj A9 h.i h.f;exact⟨y',e1,e2,hi.upTo hF.size,hf,by unfold Sz;rw[e2.1,e2.2.1];exact h.s⟩
structure R_ (A C Bb z lo:Nat) (Y:Bk) (b1 b2 b3:OA) (k1 k2 k3:Nat) (s1 s2:ByteArray) (nw sn:Int) (am:OA) (n cp:Nat) (X:World):Prop where
 a:∃l,AE X A 5 (AV l)an:IC X A
 c:AE X C 5 (AV [.s ⟨#[]⟩,.s ⟨#[]⟩,.i 0,.l none 0 0,.i 0])cs:LL X C
 b:AE X Bb 5 (AV [.i Y.v,.i Y.f,.l b1 Y.on k1,.l b2 Y.hn k2,.l b3 Y.tn k3])y:jD X lo Y b1 b2 b3 k3
 z:AE X z 5 (AV [.s s1,.s s2,.i nw,.l am n cp,.i sn])
theorem R_.fr (h:R_ A C Bb z lo Y b1 b2 b3 k1 k2 k3 s1 s2 nw sn am n cp X) (hF:AB U X Z) (hA:¬U A) (hC:¬U C) (hB:¬U Bb) (hz:¬U z) (hl:∀q,lo<=q->¬U q):R_ A C Bb z lo Y b1 b2 b3 k1 k2 k3 s1 s2 nw sn am n cp Z:=by obtain⟨⟨l,Ox⟩,an,c,cs,b,y,z⟩:=h;exact⟨⟨l,Ox.fr hF hA⟩,an.fr hF Ox.lt hA,c.fr hF hC,cs.fr hF c.lt hC,b.fr hF hB,y.fr hF hl,z.fr hF hz⟩
theorem jD.bv{B:Bk}{a1 a2 a3:OA}{c3:Nat}(h:jD X lo B a1 a2 a3 c3):Ip X B a1 a2 a3 c3:=⟨h.v,h.f,h.i.dn S4,h.c⟩
def pc (R:Nat) (A _C _Bb _z _lo:Nat) (Y:Bk) (b1 b2 b3:OA) (k1 k2 k3:Nat) (s1 s2:ByteArray) (nw sn:Int) (am:OA) (n cp:Nat) (i:Nat) (v:Value) (X:World):Prop:=match i with
 |0=>v=.p R 0
 |1=>v=.agg #[.i Y.v,.i Y.f,.l b1 Y.on k1,.l b2 Y.hn k2,.l b3 Y.tn k3]
 |2=>∃(y:Bk) (f1 f2 f3:OA) (e1 e2 e3:Nat),v=.agg #[.i y.v,.i y.f,.l f1 y.on e1,.l f2 y.hn e2,.l f3 y.tn e3]/\N5 X y f1 f2 f3
 |3=>v=.agg #[.s s1,.s s2,.i nw,.l am n cp,.i sn]
 |4=>∃(y:Bk) (f1 f2 f3:OA) (e1 e2 e3:Nat),AE X A 5 (AV [.i y.v,.i y.f,.l f1 y.on e1,.l f2 y.hn e2,.l f3 y.tn e3])/\N5 X y f1 f2 f3
 |5=>True
 |_=>True
def NU (R A C i q:Nat):Prop:=match i with
 |2=>q=R
 |4=>q=A
 |5=>q=C
 |_=>False
def re (i:Nat):Nat:=match i with
 |2=>4000
 |_=>0
theorem Aa4{DT D9:Value}(t0:Nat->Value) (R:Nat) (ad:OA) (nn cap p:Nat) (A C Bb z lo:Nat) (Y:Bk) (b1 b2 b3:OA) (k1 k2 k3:Nat) (s1 s2:ByteArray) (nw sn:Int) (am:OA) (n cp:Nat) (W:World) (hr:Rd W R ad nn cap p) (hp:p<=300000) (hJ:R_ A C Bb z lo Y b1 b2 b3 k1 k2 k3 s1 s2 nw sn am n cp W) (h1:s1.size<=8) (h2:s2.size<=8) (qF:A<C) (hCR:C<R) (hRl:R<lo) (hlB:lo<=Bb) (hlz:lo<=z) (FO:∀b off,ad=some ⟨b,off,none⟩->b<A) (Dg:mk=λt=>#[p0,p1,.p A 0,.p C 0,.p R 0,.p Bb 0,.p z 0,p7,p8,p9,Ea,Ee,Em,D1,DW,DN,DU,t 0,t 1,t 2,t 3,DT,D9]) (Q:Exit->Act->World->Prop) (hQ:∀(t:Nat->Value) (X:World) (y:Bk) (f1 f2 f3:OA) (e1 e2 e3:Nat),AB (λq=>q=R\/(q=A\/q=C)) W X->AE X A 5 (AV [.i y.v,.i y.f,.l f1 y.on e1,.l f2 y.hn e2,.l f3 y.tn e3])->N5 X y f1 f2 f3->AE X C 5 (AV [.s s1,.s s2,.i nw,.l am n cp,.i sn])->Q .normal ⟨mk t,[]⟩ X):Code.wp prog (rg Tryz.f25 4) Q ⟨mk t0,[]⟩ W:=by
 have Le:=hr.lt;have Gc:lo<=W.1.size:=by have:=hJ.b.lt;omega
 have rK:∀b off,ad=some ⟨b,off,none⟩->b<W.1.size:=λb off e=>by have:=FO b off e;omega
 refine KW Zc 6 4000 (re) mk t0 R ad nn cap p (λq=>q=R\/(q=A\/q=C)) (NU R A C) 5 (R_ A C Bb z lo Y b1 b2 b3 k1 k2 k3 s1 s2 nw sn am n cp) (pc R A C Bb z lo Y b1 b2 b3 k1 k2 k3 s1 s2 nw sn am n cp) (λ_ X=>∃(y:Bk) (f1 f2 f3:OA) (e1 e2 e3:Nat),AE X A 5 (AV [.i y.v,.i y.f,.l f1 y.on e1,.l f2 y.hn e2,.l f3 y.tn e3])/\N5 X y f1 f2 f3/\AE X C 5 (AV [.s s1,.s s2,.i nw,.l am n cp,.i sn])) Zc Zc Zc Zb ?_ ?_ rfl hr (hJ.fr (Aj (P:=λ_=>False) (Ap _ _).drew) (λe=>e) (λe=>e) (λe=>e) (λe=>e) (λ_ _ e=>e)) ?_ ?_;all_goals subst Dg
 .intro i q h;unfold NU at h;exact aa
 .intro i j v X Z p' hi hj P4 kC h gk hD Lb hX;have Ss:∀q,NU R A C j q->IC X q:=λq e=>by unfold NU at e;exact e_
  iterate 6 (rcases i with _|i;.first|exact h|(obtain⟨y,f1,f2,f3,e1,e2,e3,e,hB⟩:=h;exact⟨y,f1,f2,f3,e1,e2,e3,e,hB.fr hD Ss⟩)|(obtain⟨y,f1,f2,f3,e1,e2,e3,e,hB⟩:=h;refine⟨y,f1,f2,f3,e1,e2,e3,e.fr hD (λq=>?_),hB.fr hD Ss⟩;unfold NU at q;split at q<;>first|exact P4 rfl|exact q|omega))
  omega
 .intro i hi t X K p' hb CO Dj AW hJ hg hK;rcases(ae i Za)with rfl|rfl|rfl|rfl|rfl|rfl;.exact bs
  .exact dW
  .have AY:t 0=_:=hg 0 (AR rfl);have Ff:t 1=_:=hg 1 (AR rfl);have hp3:p'+4000<=p+4000:=Dj;have iv:=hb.size;refine Au rfl rfl ?_;have HK:=Ab hK;have HR:=Ab AW;have HJ:=Ab hJ;have MH:=Ab rK;clear hK hg AW hJ rK;go_simp;go_at_call 44;refine(Xd Y b1 b2 b3 k1 k2 k3 R ad nn cap p' X HR Za HJ.y.bv (λb off e=>Aa (MH b off e) iv)).mono ?_;rintro r Z ⟨y,f1,f2,f3,e1,e2,e3,rfl,Cs,BG,JP,hf,q2,z1,z2,Me⟩;have h:=HK (.agg #[.i y.v,.i y.f,.l f1 y.on e1,.l f2 y.hn e2,.l f3 y.tn e3]) Z q2 z1 z2 ⟨y,f1,f2,f3,e1,e2,e3,rfl,Cs,BG,JP⟩ hf Me (AA ⟨Zb,HJ.fr hf Za Za Za Za (λq e1 e2=>by omega)⟩);exact LN
  .exact XW
  .obtain⟨y,f1,f2,f3,e1,e2,e3,g1,hB⟩:=hg 2 (AR rfl);obtain⟨⟨l,hl⟩,an,hc,cs,b,yy,zz⟩:=hJ;have c0:=hl.cell 0 Zb;have c1:=hl.cell 1 Zb;have c2:=hl.cell 2 Zb;have c3:=hl.cell 3 Zb;have c4:=hl.cell 4 Zb;have cf:=hl.free;have cl:=hl.lt;have F:=((((((AB.refl (λq=>q=A) X).setCell (p:=⟨A,0,none⟩) rfl (.i y.v)).setCell (p:=⟨A,1,none⟩) rfl (.i y.f)).setCell (p:=⟨A,2,none⟩) rfl (.l f1 y.on e1)).setCell (p:=⟨A,3,none⟩) rfl (.l f2 y.hn e2)).setCell (p:=⟨A,4,none⟩) rfl (.l f3 y.tn e3));have Z:=(((((hl.set (o:=0) Zb (.i y.v)).set (o:=1) Zb (.i y.f)).set (o:=2) Zb (.l f1 y.on e1)).set (o:=3) Zb (.l f2 y.hn e2)).set (o:=4) Zb (.l f3 y.tn e3));have Z2:AE _ A 5 (AV [.i y.v,.i y.f,.l f1 y.on e1,.l f2 y.hn e2,.l f3 y.tn e3]):=Z.congr λj hj=>Zo;have N2:=Ye an hl y f1 f2 f3 e1 e2 e3;have h:=hK (t 4) _ p' A9 A9 ⟨y,f1,f2,f3,e1,e2,e3,Z2,hB.fr F (λq hq=>by subst hq;exact an)⟩ F (hr.keep2 AW F Za (λb off e=>by have:=FO b off e;omega)) (AA ⟨Zb,⟨⟨_,Z2⟩,N2,hc.fr F Za,cs.fr F hc.lt Za,b.fr F Za,yy.fr F (λq e1 e2=>by omega),zz.fr F Za⟩⟩);have HK:=Ab h;clear hK hg hl F Z Z2 N2 h AW hB b yy zz hc cs an;refine Au rfl rfl ?_;go_simp;simpa[AX,g1,OQ]using HK.out
  .have AY:t 3=_:=hg 3 (AR rfl);obtain⟨y,f1,f2,f3,e1,e2,e3,bQ,hB⟩:=hg 4 ⟨_,rfl,⟨4,.chain⟩,Ze,rfl,rfl⟩;obtain⟨_,an,hl,cs,b,yy,zz⟩:=hJ;obtain⟨c0,c1,c2,c3,c4⟩:=JQ hl;have cf:=hl.free;have cl:=hl.lt;have F:=((((((AB.refl (λq=>q=C) X).setCell (p:=⟨C,0,none⟩) rfl (.s s1)).setCell (p:=⟨C,1,none⟩) rfl (.s s2)).setCell (p:=⟨C,2,none⟩) rfl (.i nw)).setCell (p:=⟨C,3,none⟩) rfl (.l am n cp)).setCell (p:=⟨C,4,none⟩) rfl (.i sn));have Z:=(((((hl.set (o:=0) Zb (.s s1)).set (o:=1) Zb (.s s2)).set (o:=2) Zb (.i nw)).set (o:=3) Zb (.l am n cp)).set (o:=4) Zb (.i sn));have Z2:AE _ C 5 (AV [.s s1,.s s2,.i nw,.l am n cp,.i sn]):=Z.congr λj hj=>Zo;obtain⟨y',w1,w2,ik⟩:=hB.put hl cs F Z2 h1 h2;have YZ:=bQ.fr F Za;rw[<-w1.1,<-w1.2,<-w2.1,<-w2.2.1,<-w2.2.2]at YZ;have h:=hK (t 5) _ p' A9 A9 trivial F (hr.keep2 AW F Za (λb off e=>by have:=FO b off e;omega)) (Az ⟨rfl,y',f1,f2,f3,e1,e2,e3,YZ,ik,Z2⟩);have HK:=Ab h;clear hK hg hl F Z Z2 h AW hB ik b yy zz cs an bQ YZ;exact Yk
 .exact yi
def nx (_R:Nat) (A _C _Bb _z _lo:Nat) (Y:Bk) (b1 b2 b3:OA) (k1 k2 k3:Nat) (s1 s2:ByteArray) (nw sn:Int) (am:OA) (n cp:Nat) (i:Nat) (v:Value) (X:World):Prop:=match i with
 |0=>v=.agg #[.i Y.v,.i Y.f,.l b1 Y.on k1,.l b2 Y.hn k2,.l b3 Y.tn k3]
 |1=>v=.agg #[.s s1,.s s2,.i nw,.l am n cp,.i sn]
 |2=>∃(y:Bk) (f1 f2 f3:OA) (e1 e2 e3:Nat),AE X A 5 (AV [.i y.v,.i y.f,.l f1 y.on e1,.l f2 y.hn e2,.l f3 y.tn e3])/\N5 X y f1 f2 f3
 |3=>True
 |_=>True
def Oh (_R A C i q:Nat):Prop:=match i with
 |2=>q=A
 |3=>q=C
 |_=>False
theorem Abw (t0:Nat->Value) (R:Nat) (ad:OA) (nn cap p:Nat) (A C Bb z lo:Nat) (Y:Bk) (b1 b2 b3:OA) (k1 k2 k3:Nat) (s1 s2:ByteArray) (nw sn:Int) (am:OA) (n cp:Nat) (W:World) (hr:Rd W R ad nn cap p) (_hp:p<=300000) (hJ:R_ A C Bb z lo Y b1 b2 b3 k1 k2 k3 s1 s2 nw sn am n cp W) (h1:s1.size<=8) (h2:s2.size<=8) (qF:A<C) (hCR:C<R) (hRl:R<lo) (hlB:lo<=Bb) (hlz:lo<=z) (FO:∀b off,ad=some ⟨b,off,none⟩->b<A) (Dg:mk=λt=>#[p0,p1,.p A 0,.p C 0,.p R 0,.p Bb 0,.p z 0,p7,p8,p9,Ea,Ee,Em,D1,DW,DN,DU,DX,DO,DP,DV,t 0,t 1]) (Q:Exit->Act->World->Prop) (hQ:∀(t:Nat->Value) (X:World) (y:Bk) (f1 f2 f3:OA) (e1 e2 e3:Nat),AB (λq=>q=R\/(q=A\/q=C)) W X->AE X A 5 (AV [.i y.v,.i y.f,.l f1 y.on e1,.l f2 y.hn e2,.l f3 y.tn e3])->N5 X y f1 f2 f3->AE X C 5 (AV [.s s1,.s s2,.i nw,.l am n cp,.i sn])->Q .normal ⟨mk t,[]⟩ X):Code.wp prog (rg Tryz.f25 5) Q ⟨mk t0,[]⟩ W:=by
 have Le:=hr.lt;have Gc:lo<=W.1.size:=by have:=hJ.b.lt;omega
 have rK:∀b off,ad=some ⟨b,off,none⟩->b<W.1.size:=λb off e=>by have:=FO b off e;omega
 refine KW Zc 4 0 (λ_=>0) mk t0 R ad nn cap p (λq=>q=R\/(q=A\/q=C)) (Oh R A C) 3 (R_ A C Bb z lo Y b1 b2 b3 k1 k2 k3 s1 s2 nw sn am n cp) (nx R A C Bb z lo Y b1 b2 b3 k1 k2 k3 s1 s2 nw sn am n cp) (λ_ X=>∃(y:Bk) (f1 f2 f3:OA) (e1 e2 e3:Nat),AE X A 5 (AV [.i y.v,.i y.f,.l f1 y.on e1,.l f2 y.hn e2,.l f3 y.tn e3])/\N5 X y f1 f2 f3/\AE X C 5 (AV [.s s1,.s s2,.i nw,.l am n cp,.i sn])) Zc Zc Zc Zb ?_ ?_ rfl hr (hJ.fr (Aj (P:=λ_=>False) (Ap _ _).drew) (λe=>e) (λe=>e) (λe=>e) (λe=>e) (λ_ _ e=>e)) ?_ ?_;all_goals subst Dg
 .intro i q h;unfold Oh at h;exact aa
 .intro i j v X Z p' hi hj P4 kC h gk hD Lb hX;have Ss:∀q,Oh R A C j q->IC X q:=λq e=>by unfold Oh at e;exact e_
  iterate 4 (rcases i with _|i;.first|exact h|(obtain⟨y,f1,f2,f3,e1,e2,e3,e,hB⟩:=h;refine⟨y,f1,f2,f3,e1,e2,e3,e.fr hD (λq=>?_),hB.fr hD Ss⟩;unfold Oh at q;split at q<;>first|exact P4 rfl|exact q|omega))
  omega
 .intro i hi t X K p' hb CO Dj AW hJ hg hK;rcases(CS4 i Za)with rfl|rfl|rfl|rfl;.exact dW
  .exact XW
  .have AY:t 0=_:=hg 0 (AR rfl);have hB:N5 X Y b1 b2 b3:=⟨hJ.y.i.dn S4,hJ.y.f,by have:=hJ.y.v.on;exact⟨Za,by have:=hJ.y.v.hn;omega⟩⟩;obtain⟨⟨l,hl⟩,an,hc,cs,b,yy,zz⟩:=hJ;have c0:=hl.cell 0 Zb;have c1:=hl.cell 1 Zb;have c2:=hl.cell 2 Zb;have c3:=hl.cell 3 Zb;have c4:=hl.cell 4 Zb;have cf:=hl.free;have cl:=hl.lt;have F:=((((((AB.refl (λq=>q=A) X).setCell (p:=⟨A,0,none⟩) rfl (.i Y.v)).setCell (p:=⟨A,1,none⟩) rfl (.i Y.f)).setCell (p:=⟨A,2,none⟩) rfl (.l b1 Y.on k1)).setCell (p:=⟨A,3,none⟩) rfl (.l b2 Y.hn k2)).setCell (p:=⟨A,4,none⟩) rfl (.l b3 Y.tn k3));have Z:=(((((hl.set (o:=0) Zb (.i Y.v)).set (o:=1) Zb (.i Y.f)).set (o:=2) Zb (.l b1 Y.on k1)).set (o:=3) Zb (.l b2 Y.hn k2)).set (o:=4) Zb (.l b3 Y.tn k3));have Z2:AE _ A 5 (AV [.i Y.v,.i Y.f,.l b1 Y.on k1,.l b2 Y.hn k2,.l b3 Y.tn k3]):=Z.congr λj hj=>Zo;have N2:=Ye an hl Y b1 b2 b3 k1 k2 k3;have h:=hK (t 2) _ p' A9 A9 ⟨Y,b1,b2,b3,k1,k2,k3,Z2,hB.fr F (λq hq=>by subst hq;exact an)⟩ F (hr.keep2 AW F Za (λb off e=>by have:=FO b off e;omega)) (AA ⟨Zb,⟨⟨_,Z2⟩,N2,hc.fr F Za,cs.fr F hc.lt Za,b.fr F Za,yy.fr F (λq e1 e2=>by omega),zz.fr F Za⟩⟩);have HK:=Ab h;clear hK hg hl F Z Z2 N2 h AW hB b yy zz hc cs an;exact Yk
  .have AY:t 1=_:=hg 1 (AR rfl);obtain⟨y,f1,f2,f3,e1,e2,e3,bQ,hB⟩:=hg 2 ⟨_,rfl,⟨2,.chain⟩,Ze,rfl,rfl⟩;obtain⟨_,an,hl,cs,b,yy,zz⟩:=hJ;obtain⟨c0,c1,c2,c3,c4⟩:=JQ hl;have cf:=hl.free;have cl:=hl.lt;have F:=((((((AB.refl (λq=>q=C) X).setCell (p:=⟨C,0,none⟩) rfl (.s s1)).setCell (p:=⟨C,1,none⟩) rfl (.s s2)).setCell (p:=⟨C,2,none⟩) rfl (.i nw)).setCell (p:=⟨C,3,none⟩) rfl (.l am n cp)).setCell (p:=⟨C,4,none⟩) rfl (.i sn));have Z:=(((((hl.set (o:=0) Zb (.s s1)).set (o:=1) Zb (.s s2)).set (o:=2) Zb (.i nw)).set (o:=3) Zb (.l am n cp)).set (o:=4) Zb (.i sn));have Z2:AE _ C 5 (AV [.s s1,.s s2,.i nw,.l am n cp,.i sn]):=Z.congr λj hj=>Zo;obtain⟨y',w1,w2,ik⟩:=hB.put hl cs F Z2 h1 h2;have YZ:=bQ.fr F Za;rw[<-w1.1,<-w1.2,<-w2.1,<-w2.2.1,<-w2.2.2]at YZ;have h:=hK (t 3) _ p' A9 A9 trivial F (hr.keep2 AW F Za (λb off e=>by have:=FO b off e;omega)) (Az ⟨rfl,y',f1,f2,f3,e1,e2,e3,YZ,ik,Z2⟩);have HK:=Ab h;clear hK hg hl F Z Z2 h AW hB ik b yy zz cs an bQ YZ;exact Yk
 .exact yi
structure Aig (w Y:World) (R:Nat) (ad:OA) (nn cap p:Nat) (T:Nat) (y:Bk) (b1 b2 b3:OA) (e1 e2 e3:Nat):Prop where
 c0:Y.cell? ⟨T,0,none⟩=some (.i y.v)c1:Y.cell? ⟨T,1,none⟩=some (.i y.f)c2:Y.cell? ⟨T,2,none⟩=some (.slice b1 y.on e1)c3:Y.cell? ⟨T,3,none⟩=some (.slice b2 y.hn e2)c4:Y.cell? ⟨T,4,none⟩=some (.slice b3 y.tn e3)i:BL Y 0 Y.1.size y b1 b2 b3
 f:AB (λq=>q=R) w Y
 r:Rd Y R ad nn cap p
theorem Afi{R:Nat}{cap p p' T:Nat}{l:List Value}(e1 e2 e3:Nat) (hw:Rd w R ad nn cap p) (hT:w.1.size<=T) (ha:AE X T 5 (AV l)) (han:IC X T) (Cs:BL X 0 X.1.size y b1 b2 b3) (hf:AB (λq=>q=R) w X) (AW:Rd X R ad nn cap p'):Aig w (((((X.setCell ⟨T,0,none⟩ (.i y.v)).setCell ⟨T,1,none⟩ (.i y.f)).setCell ⟨T,2,none⟩ (.l b1 y.on e1)).setCell ⟨T,3,none⟩ (.l b2 y.hn e2)).setCell ⟨T,4,none⟩ (.l b3 y.tn e3)) R ad nn cap p' T y b1 b2 b3 e1 e2 e3:=by
 have F:=(((((AB.refl (λq=>q=T) X).setCell (p:=⟨T,0,none⟩) rfl (.i y.v)).setCell (p:=⟨T,1,none⟩) rfl (.i y.f)).setCell (p:=⟨T,2,none⟩) rfl (.l b1 y.on e1)).setCell (p:=⟨T,3,none⟩) rfl (.l b2 y.hn e2)).setCell (p:=⟨T,4,none⟩) rfl (.l b3 y.tn e3);have Z:=((((ha.set (o:=0) Zb (.i y.v)).set (o:=1) Zb (.i y.f)).set (o:=2) Zb (.l b1 y.on e1)).set (o:=3) Zb (.l b2 y.hn e2)).set (o:=4) Zb (.l b3 y.tn e3);have y0:=Z.cell 0 Zb;have y1:=Z.cell 1 Zb;have y2:=Z.cell 2 Zb;have y3:=Z.cell 3 Zb;have y4:=Z.cell 4 Zb;simp only[GR,Nat.reduceEqDiff,if_true,if_false]at y0 y1 y2 y3 y4;refine⟨y0,y1,y2,y3,y4,(Cs.box F han A9).upTo F.size,?_,?_⟩;.exact((((hf.far hT _ _).far hT _ _).far hT _ _).far hT _ _).far hT _ _
 .exact hw.far (hw.far (hw.far (hw.far (hw.far AW hT _ _) hT _ _) hT _ _) hT _ _) hT _ _
def FT (w:World) (ad:OA) (n:Nat):Prop:=∀i,i<n->∃b off v,ad=some ⟨b,off,none⟩/\b<w.1.size/\w.cell? ⟨b,off+i,none⟩=some (.int .u8 v)/\0<=v/\v<256
theorem yR (w:World) (ad:OA) (n cap:Nat) (hn:n<=2000) (hb:FT w ad n):Rd (w.alloc (.cells #[.l ad n cap,.i 0] 70)) w.1.size ad n cap 0:=by
 refine⟨by simp ,by simp ,Ze,Ze,hn,λi hi=>?_,λj s e=>?_⟩;.obtain⟨b,off,v,e1,e2,e3,e4,e5⟩:=hb i hi;exact⟨b,off,v,e1,Zd,Za,((Ak w _).cell (p:=⟨b,off+i,none⟩) e2).trans e3,e4,e5⟩
 .rw[Al]at e;rcases j with _|_|j<;>simp at e
theorem Nc (ad:OA) (n cap:Nat) (w:World) (hn:(n:Int)<=1048576) (hc:n<=cap) (hb:FT w ad n):Calls prog 13 #[.l ad n cap] w λe w'=>∃n' cap',e=.returned (.p (w.1.size) 0)/\Rd w' w.1.size ad n' cap' 0/\Below w.1.size w w':=by
 by_cases h:n<=2000;.have HR:=Ab (yR w ad n cap h hb);clear hb;go_enter func13,ntmps13;go_wp2_with fail;go_ret;exact⟨n,cap,rfl,HR,Ak _ _⟩
 .obtain⟨b,off,v,rfl,hlt,_⟩:=hb 0 Za;have HR:=Ab (yR w (some ⟨b,off,none⟩) 2000 cap A9 (λi hi=>hb i Za));clear hb;go_enter func13,ntmps13;go_wp2_with fail;go_ret;exact⟨2000,cap,rfl,HR,Ak _ _⟩
def Dr8 (w:World) (e:Ending) (w':World):Prop:=∃(y:Bk) (f1 f2 f3:OA) (e1 e2 e3:Nat) (s1 s2:ByteArray) (nw sn:Int) (am:OA) (n cp:Nat) (os:Nat->Ob),e=.returned (.tuple #[.agg (vB y f1 f2 f3 e1 e2 e3),.agg #[.s s1,.s s2,.i nw,.l am n cp,.i sn]])/\N5 w' y f1 f2 f3/\LK w' w.1.size s1 s2 nw sn am n os/\Below w.1.size w w'
structure F' (w w1:World) (ad:OA) (nn cq:Nat):Prop where
 r:Rd w1 (w.1.size+1+1) ad nn cq 0
 b:Below w.1.size w w1
 a:AE w1 w.1.size 5 (AV [.i 0,.i 0,.l none 0 0,.l none 0 0,.l none 0 0])an:IC w1 w.1.size
 c:AE w1 (w.1.size+1) 5 (AV [.s ⟨#[]⟩,.s ⟨#[]⟩,.i 0,.l none 0 0,.i 0])cs:LL w1 (w.1.size+1)
theorem F'.new (hr:Rd w1 ((w.alloc (.cells #[.i 0,.i 0,.l none 0 0,.l none 0 0,.l none 0 0] 36)).alloc (.cells #[.s ⟨#[]⟩,.s ⟨#[]⟩,.i 0,.l none 0 0,.i 0] 25)).1.size ad nn cq 0) (hb:Below ((w.alloc (.cells #[.i 0,.i 0,.l none 0 0,.l none 0 0,.l none 0 0] 36)).alloc (.cells #[.s ⟨#[]⟩,.s ⟨#[]⟩,.i 0,.l none 0 0,.i 0] 25)).1.size ((w.alloc (.cells #[.i 0,.i 0,.l none 0 0,.l none 0 0,.l none 0 0] 36)).alloc (.cells #[.s ⟨#[]⟩,.s ⟨#[]⟩,.i 0,.l none 0 0,.i 0] 25)) w1):F' w w1 ad nn cq:=by have a:=AE.new (w:=w) (l:=[.i 0,.i 0,.l none 0 0,.l none 0 0,.l none 0 0]) (t:=36) (Ak (w.alloc (.cells #[.i 0,.i 0,.l none 0 0,.l none 0 0,.l none 0 0] 36)) (.cells #[.s ⟨#[]⟩,.s ⟨#[]⟩,.i 0,.l none 0 0,.i 0] 25));have c:=AE.new (w:=w.alloc (.cells #[.i 0,.i 0,.l none 0 0,.l none 0 0,.l none 0 0] 36)) (l:=[.s ⟨#[]⟩,.s ⟨#[]⟩,.i 0,.l none 0 0,.i 0]) (t:=25) Dx;have cs:=LL.new (w.alloc (.cells #[.i 0,.i 0,.l none 0 0,.l none 0 0,.l none 0 0] 36));have an:IC ((w.alloc (.cells #[.i 0,.i 0,.l none 0 0,.l none 0 0,.l none 0 0] 36)).alloc (.cells #[.s ⟨#[]⟩,.s ⟨#[]⟩,.i 0,.l none 0 0,.i 0] 25)) w.1.size:=(Ys w).below Do Ze;rw[Av]at c cs;rw[Av,Av]at hr;exact⟨hr,(((Ap _ _).alloc A9 _).alloc Ze _).trans (hb.mono Zd),a.below hb a.lt,an.below hb a.lt,c.below hb c.lt,cs.fr (Aj (P:=λ_=>False) hb) c.lt (λe=>e)⟩
theorem F'.start (h:F' w w1 ad nn cq) (hf:AB (λq=>q=w.1.size+1+1) w1 w3) (hB:jD w3 w1.1.size Y b1 b2 b3 k3):R_ w.1.size (w.1.size+1) w3.1.size (w3.1.size+1) w1.1.size Y b1 b2 b3 k1 k2 k3 s1 s2 nw sn am n cp ((w3.alloc (.cells (vB Y b1 b2 b3 k1 k2 k3) 36)).alloc (.cells #[.s s1,.s s2,.i nw,.l am n cp,.i sn] 25))/\AB (λq=>q=w.1.size+1+1) w1 ((w3.alloc (.cells (vB Y b1 b2 b3 k1 k2 k3) 36)).alloc (.cells #[.s s1,.s s2,.i nw,.l am n cp,.i sn] 25)):=by have hb:Below w3.1.size w3 ((w3.alloc (.cells (vB Y b1 b2 b3 k1 k2 k3) 36)).alloc (.cells #[.s s1,.s s2,.i nw,.l am n cp,.i sn] 25)):=((Ap _ _).alloc A9 _).alloc Ze _;have b:=AE.new (w:=w3) (l:=(JR Y b1 b2 b3 k1 k2 k3)) (t:=36) (Ak (w3.alloc (.cells (vB Y b1 b2 b3 k1 k2 k3) 36)) (.cells #[.s s1,.s s2,.i nw,.l am n cp,.i sn] 25));have z:=AE.new (w:=w3.alloc (.cells (vB Y b1 b2 b3 k1 k2 k3) 36)) (l:=[.s s1,.s s2,.i nw,.l am n cp,.i sn]) (t:=25) Dx;rw[Av]at z;have F:=hf.trans (Aj (P:=λq=>q=w.1.size+1+1) hb);exact⟨⟨⟨_,h.a.fr F Za⟩,h.an.fr F h.a.lt Za,h.c.fr F Za,h.cs.fr F h.c.lt Za,b,hB.fr (Aj (P:=λ_=>False) hb) (λ_ _ e=>e),z⟩,F⟩
theorem Re (ad:OA) (nB cap:Nat) (w:World) (hn:(nB:Int)<=1048576) (hc:nB<=cap) (hb:FT w ad nB) (FO:∀b off,ad=some ⟨b,off,none⟩->b<w.1.size):Calls prog 25 #[.l ad nB cap] w λe w'=>Dr8 w e w':=by
 have MU:Below w.1.size w ((w.alloc (.cells #[.i 0,.i 0,.l none 0 0,.l none 0 0,.l none 0 0] 36)).alloc (.cells #[.s ⟨#[]⟩,.s ⟨#[]⟩,.i 0,.l none 0 0,.i 0] 25)):=((Ap _ _).alloc A9 _).alloc Ze _;have MA:=Ab (show FT ((w.alloc (.cells #[.i 0,.i 0,.l none 0 0,.l none 0 0,.l none 0 0] 36)).alloc (.cells #[.s ⟨#[]⟩,.s ⟨#[]⟩,.i 0,.l none 0 0,.i 0] 25)) ad nB from λi hi=>by obtain⟨b,off,v,e1,e2,e3,e4,e5⟩:=hb i hi;exact⟨b,off,v,e1,Aa e2 MU.size,(MU.cell (p:=⟨b,off+i,none⟩) e2).trans e3,e4,e5⟩);have MH:=Ab FO;clear hb FO MU;go_enter func25,ntmps25;go_upto_region 2 with(go_at_call 13;go_must(refine(Nc ad nB cap _ hn hc MA).mono ?_;rintro e w1 ⟨nn,cq,rfl,PT,Ds⟩));have HS:=Ab (F'.new PT Ds);clear PT Ds MA hn hc;have hRl:=HS.r.lt;go_upto_region 3 with(go_at_call 14;go_must(refine(Sb (w.1.size+1+1) ad nn cq 0 _ HS.r Zb (λb off e=>by have:=MH b off e;omega)).mono ?_;rintro e w3 ⟨Y,b1,b2,b3,k1,k2,k3,s1,s2,nw,sn,am,n,cp,os,rfl,j7,hM,hf,p3,GM,Lz,Gi⟩));have Ks:=hM.k;have Qt:=hM.p;have VH:=hf.size;have HJ:=Ab (HS.start (k1:=k1) (k2:=k2) (s1:=s1) (s2:=s2) (nw:=nw) (sn:=sn) (am:=am) (n:=n) (cp:=cp) hf j7);have C6:Below w3.1.size w3 ((w3.alloc (.cells (vB Y b1 b2 b3 k1 k2 k3) 36)).alloc (.cells #[.s s1,.s s2,.i nw,.l am n cp,.i sn] 25)):=((Ap _ _).alloc A9 _).alloc Ze _;have YA:=Ab (Gi.below C6);have VE:=Ab (hM.fr (Aj (P:=λ_=>False) C6) (λ_ _ e=>e));clear hf j7 hM Gi C6;go_upto_if 16 with(go_at_call 16;go_must(refine(Bt (w.1.size+1+1) ad nn cq _ 12 _ YA Za Zb Zb).mono ?_;rintro e w5 ⟨y,rfl,_,hy,gF,ka⟩;have j6:=hy Zb;clear hy));have jZ:=Ab ka;have Y7:=Ab (VE.fr gF (λq e1 e2=>by omega));have qW:=Ab (HJ.out.1.fr gF Za Za Za Za (λq e1 e2=>by omega));have SG:=Ab (HS.b.trans ((HJ.out.2.trans gF).below (λq hq e=>by omega) HS.b.size));clear ka gF YA VE HJ HS;by_cases y0:y=0;.subst y0;go_wp2_with fail;refine Aa4 (AV [_,_,_,_]) (w.1.size+1+1) ad nn cq (p3+1) w.1.size (w.1.size+1) w3.1.size (w3.1.size+1) w1.1.size Y b1 b2 b3 k1 k2 k3 s1 s2 nw sn am n cp _ jZ Za qW Ks Qt Za Za Za Za Za MH rfl _ ?_;intro t X y f1 f2 f3 e1 e2 e3 hf ha hB hc;obtain⟨a0,a1,a2,a3,a4⟩:=JQ ha;obtain⟨c0,c1,c2,c3,c4⟩:=JQ hc;have HZ:=Ab (show N5 X y f1 f2 f3/\LK X w.1.size s1 s2 nw sn am n os/\Below w.1.size w X from⟨hB,(Y7.fr hf (λq hq e=>by omega)).lo Za,SG.trans (hf.below (λq hq e=>by omega) SG.size)⟩);clear hf ha hB hc Y7 qW jZ SG;go_wp2_with fail;refine bodyPost_ret (v:=.tuple #[.agg (vB y f1 f2 f3 e1 e2 e3),.agg #[.s s1,.s s2,.i nw,.l am n cp,.i sn]]) (by simp[results,results25,go_sem,a0,a1,a2,a3,a4,c0,c1,c2,c3,c4]) rfl ⟨y,f1,f2,f3,e1,e2,e3,s1,s2,nw,sn,am,n,cp,os,rfl,HZ⟩
  --r4>
 .go_wp2_with fail;refine Abw (AV [_,_]) (w.1.size+1+1) ad nn cq (p3+1) w.1.size (w.1.size+1) w3.1.size (w3.1.size+1) w1.1.size Y b1 b2 b3 k1 k2 k3 s1 s2 nw sn am n cp _ jZ Za qW Ks Qt Za Za Za Za Za MH rfl _ ?_;intro t X y f1 f2 f3 e1 e2 e3 hf ha hB hc;obtain⟨a0,a1,a2,a3,a4⟩:=JQ ha;obtain⟨c0,c1,c2,c3,c4⟩:=JQ hc;have HZ:=Ab (show N5 X y f1 f2 f3/\LK X w.1.size s1 s2 nw sn am n os/\Below w.1.size w X from⟨hB,(Y7.fr hf (λq hq e=>by omega)).lo Za,SG.trans (hf.below (λq hq e=>by omega) SG.size)⟩);clear hf ha hB hc Y7 qW jZ SG;go_wp2_with fail;refine bodyPost_ret (v:=.tuple #[.agg (vB y f1 f2 f3 e1 e2 e3),.agg #[.s s1,.s s2,.i nw,.l am n cp,.i sn]]) (by simp[results,results25,go_sem,a0,a1,a2,a3,a4,c0,c1,c2,c3,c4]) rfl ⟨y,f1,f2,f3,e1,e2,e3,s1,s2,nw,sn,am,n,cp,os,rfl,HZ⟩
  --r5>
structure xV (A C Bb z:Nat) (Y:Bk) (b1 b2 b3:OA) (k1 k2 k3:Nat) (s1 s2:ByteArray) (nw sn:Int) (am:OA) (n cp:Nat) (X:World):Prop where
 a:∃l,AE X A 5 (AV l)an:IC X A
 c:∃(t1 t2:ByteArray) (u1 u2:Int) (ad:OA) (n1 c1:Nat),AE X C 5 (AV [.s t1,.s t2,.i u1,.l ad n1 c1,.i u2])cs:LL X C
 b:AE X Bb 5 (AV (JR Y b1 b2 b3 k1 k2 k3))k:∃x,(x.v=Y.v/\x.f=Y.f)/\(x.on=Y.on/\x.hn=Y.hn/\x.tn=Y.tn)/\N5 X x b1 b2 b3
 zs:LL X z
 z:AE X z 5 (AV [.s s1,.s s2,.i nw,.l am n cp,.i sn])
theorem xV.fr (h:xV A C Bb z Y b1 b2 b3 k1 k2 k3 s1 s2 nw sn am n cp X) (hF:AB U X Z) (hA:¬U A) (hC:¬U C) (hB:¬U Bb) (hz:¬U z) (hn:∀q,U q->IC X q):xV A C Bb z Y b1 b2 b3 k1 k2 k3 s1 s2 nw sn am n cp Z:=by obtain⟨⟨l,Ox⟩,an,⟨t1,t2,u1,u2,ad,n1,c1,c⟩,cs,b,⟨x,x1,x2,x3⟩,zs,z⟩:=h;exact⟨⟨l,Ox.fr hF hA⟩,an.fr hF Ox.lt hA,⟨t1,t2,u1,u2,ad,n1,c1,c.fr hF hC⟩,cs.fr hF c.lt hC,b.fr hF hB,⟨x,x1,x2,x3.fr hF hn⟩,zs.fr hF z.lt hz,z.fr hF hz⟩
theorem LL.set{o:Nat}(h:LL X z) (ho:o<5) (v:Value):LL (X.setCell ⟨z,o,none⟩ v) z:=λj hj=>by rw[AI _ _ _ _ (λe=>by injection e with _ e2;omega)];exact h j hj
theorem xV.s{os:Nat->Ob}(h:xV A C Bb z Y b1 b2 b3 k1 k2 k3 s1 s2 nw sn am n cp X) (hM:LK X lo s1 s2 nw sn am n os) (k:Int) (hk:0<=k/\k<=1000000) (hA:¬A=z) (hC:¬C=z) (hB:¬Bb=z):xV A C Bb z Y b1 b2 b3 k1 k2 k3 s1 s2 k sn am n cp (X.setCell ⟨z,2,none⟩ (.i k))/\∃os',LK (X.setCell ⟨z,2,none⟩ (.i k)) lo s1 s2 k sn am n os':=by obtain⟨⟨l,Ox⟩,an,⟨t1,t2,u1,u2,ad,n1,c1,c⟩,cs,b,⟨x,x1,x2,x3⟩,zs,z1⟩:=h;have F:=(AB.refl (λq=>q=z) X).setCell (p:=⟨z,2,none⟩) rfl (.i k);have Z:=z1.set (o:=2) Zb (.i k);have Z2:AE _ z 5 (AV [.s s1,.s s2,.i k,.l am n cp,.i sn]):=Z.congr λj hj=>Zo;have hM2:LK X lo s1 s2 k sn am n os:=⟨hM.k,hM.p,hk,hM.s,hM.m,hM.f,hM.i⟩;obtain⟨x',w1,w2,ik⟩:=x3.put z1 zs F Z2 hM.k hM.p;refine⟨⟨⟨l,Ox.fr F hA⟩,an.fr F Ox.lt hA,⟨t1,t2,u1,u2,ad,n1,c1,c.fr F hC⟩,cs.fr F c.lt hC,b.fr F hB,⟨x',⟨w1.1.trans x1.1,w1.2.trans x1.2⟩,⟨w2.1.trans x2.1,w2.2.1.trans x2.2.1,w2.2.2.trans x2.2.2⟩,ik⟩,zs.set (o:=2) Zb _,Z2⟩,hM2.put z1 zs am n cp F (d:=λ_=>undef) (Z2.congr λj hj=>?_)⟩;exact Ui
def rt (R:Nat) (A C _Bb _z:Nat) (Y:Bk) (b1 b2 b3:OA) (k1 k2 k3:Nat) (s1 s2:ByteArray) (nw sn:Int) (am:OA) (n cp:Nat) (i:Nat) (v:Value) (X:World):Prop:=match i with
 |0=>v=.agg (vB Y b1 b2 b3 k1 k2 k3)
 |1=>v=.agg #[.s s1,.s s2,.i nw,.l am n cp,.i sn]
 |2=>v=.p R 0
 |3=>∃k:Nat,v=.i k
 |4=>AE X A 5 (AV (JR Y b1 b2 b3 k1 k2 k3))
 |5=>AE X C 5 (AV [.s s1,.s s2,.i nw,.l am n cp,.i sn])
 |6=>∃k:Nat,v=.i k
 |_=>True
def UT (R A C i q:Nat):Prop:=match i with
 |3=>q=R
 |4=>q=A
 |5=>q=C
 |_=>False
def oq (i:Nat):Nat:=match i with
 |3=>1
 |_=>0
theorem Acr (t0:Nat->Value) (R:Nat) (ad:OA) (nn cap p:Nat) (A C Bb z:Nat) (Y:Bk) (b1 b2 b3:OA) (k1 k2 k3:Nat) (s1 s2:ByteArray) (nw sn:Int) (am:OA) (n cp:Nat) (W:World) (hr:Rd W R ad nn cap p) (hp:p<=300000) (hJ:xV A C Bb z Y b1 b2 b3 k1 k2 k3 s1 s2 nw sn am n cp W) (h1:s1.size<=8) (h2:s2.size<=8) (qF:A<C) (hCR:C<R) (hlB:R<Bb) (hlz:R<z) (FO:∀b off,ad=some ⟨b,off,none⟩->b<A) (Dg:mk=λt=>#[p0,p1,.p A 0,.p C 0,t 6,.p R 0,.p Bb 0,.p z 0,p8,p9,Ea,Ee,Em,D1,DW,DN,DU,DX,DO,DP,DV,t 0,t 1,t 2,t 3]) (Q:Exit->Act->World->Prop) (hQ:∀(t:Nat->Value) (X:World) (k:Nat),AB (λq=>q=R\/(q=A\/q=C)) W X->AE X A 5 (AV (JR Y b1 b2 b3 k1 k2 k3))->xV A C Bb z Y b1 b2 b3 k1 k2 k3 s1 s2 nw sn am n cp X->AE X C 5 (AV [.s s1,.s s2,.i nw,.l am n cp,.i sn])->t 6=.i k->Q .normal ⟨mk t,[]⟩ X):Code.wp prog (rg Tryz.f8 5) Q ⟨mk t0,[]⟩ W:=by
 have Le:=hr.lt;refine KW Zc 7 1 oq mk t0 R ad nn cap p (λq=>q=R\/(q=A\/q=C)) (UT R A C) 7 (xV A C Bb z Y b1 b2 b3 k1 k2 k3 s1 s2 nw sn am n cp) (rt R A C Bb z Y b1 b2 b3 k1 k2 k3 s1 s2 nw sn am n cp) (λ_ _=>True) Zc Zc Zc Zb ?_ ?_ rfl hr (hJ.fr (Aj (P:=λ_=>False) (Ap _ _).drew) (λe=>e) (λe=>e) (λe=>e) (λe=>e) (λ_ e=>e.elim)) ?_ ?_;all_goals subst Dg
 .intro i q h;unfold UT at h;exact aa
 .intro i j v X Z p' hi hj P4 _ h gk hD Lb hX;iterate 7 (rcases i with _|i;.first|exact h|(refine AE.fr h hD (λq=>?_);unfold UT at q;split at q<;>first|exact P4 rfl|exact q|omega))
  omega
 .intro i hi t X K p' hb CO Dj AW hJ hg hK;rcases(YP i Za)with rfl|rfl|rfl|rfl|rfl|rfl|rfl;.exact dW
  .exact XW
  .exact bs
  .have AY:t 2=_:=hg 2 (AR rfl);have hp3:p'+1<=p+1:=Dj;refine Au rfl rfl ?_;have HK:=Ab hK;have HR:=Ab AW;have HJ:=Ab hJ;clear hK hg AW hJ;go_simp;go_at_call 16;refine(Bt R ad nn cap p' 8 X HR Za Zb Zb).mono ?_;rintro r Z ⟨k,rfl,_,hv,hf,Me⟩;have h:=HK (.i k) Z (p'+1) Za A9 ⟨k,rfl⟩ hf Me (AA ⟨Zb,HJ.fr hf Za Za Za Za (λq hq=>by subst hq;exact HR.ns)⟩);simpa[AX,AY]using h
  .have AY:t 0=_:=hg 0 (AR rfl);obtain⟨⟨l,hl⟩,an,⟨t1,t2,u1,u2,adc,n1,c1,hc⟩,cs,b,⟨x,x1,x2,x3⟩,zs,zz⟩:=hJ;have a0:=hl.cell 0 Zb;have a1:=hl.cell 1 Zb;have a2:=hl.cell 2 Zb;have a3:=hl.cell 3 Zb;have a4:=hl.cell 4 Zb;have cf:=hl.free;have cl:=hl.lt;have F:=((((((AB.refl (λq=>q=A) X).setCell (p:=⟨A,0,none⟩) rfl (.i Y.v)).setCell (p:=⟨A,1,none⟩) rfl (.i Y.f)).setCell (p:=⟨A,2,none⟩) rfl (.l b1 Y.on k1)).setCell (p:=⟨A,3,none⟩) rfl (.l b2 Y.hn k2)).setCell (p:=⟨A,4,none⟩) rfl (.l b3 Y.tn k3));have Z:=(((((hl.set (o:=0) Zb (.i Y.v)).set (o:=1) Zb (.i Y.f)).set (o:=2) Zb (.l b1 Y.on k1)).set (o:=3) Zb (.l b2 Y.hn k2)).set (o:=4) Zb (.l b3 Y.tn k3));have Z2:AE _ A 5 (AV (JR Y b1 b2 b3 k1 k2 k3)):=Z.congr λj hj=>Zo;have N2:=Ye an hl Y b1 b2 b3 k1 k2 k3;have h:=hK (t 4) _ p' A9 A9 Z2 F (hr.keep2 AW F Za (λb off e=>by have:=FO b off e;omega)) (AA ⟨Zb,⟨⟨_,Z2⟩,N2,⟨t1,t2,u1,u2,adc,n1,c1,hc.fr F Za⟩,cs.fr F hc.lt Za,b.fr F Za,⟨x,x1,x2,x3.fr F (λq hq=>by subst hq;exact an)⟩,zs.fr F zz.lt Za,zz.fr F Za⟩⟩);have HK:=Ab h;clear hK hg hl F Z Z2 N2 h AW b zz hc cs an zs x1 x2 x3 x;exact Yk
  .have AY:t 1=_:=hg 1 (AR rfl);obtain⟨⟨l,Ox⟩,an,⟨t1,t2,u1,u2,adc,n1,c1,hl⟩,cs,b,⟨x,x1,x2,x3⟩,zs,zz⟩:=hJ;obtain⟨a0,a1,a2,a3,a4⟩:=JQ hl;have cf:=hl.free;have cl:=hl.lt;have F:=((((((AB.refl (λq=>q=C) X).setCell (p:=⟨C,0,none⟩) rfl (.s s1)).setCell (p:=⟨C,1,none⟩) rfl (.s s2)).setCell (p:=⟨C,2,none⟩) rfl (.i nw)).setCell (p:=⟨C,3,none⟩) rfl (.l am n cp)).setCell (p:=⟨C,4,none⟩) rfl (.i sn));have Z:=(((((hl.set (o:=0) Zb (.s s1)).set (o:=1) Zb (.s s2)).set (o:=2) Zb (.i nw)).set (o:=3) Zb (.l am n cp)).set (o:=4) Zb (.i sn));have Z2:AE _ C 5 (AV [.s s1,.s s2,.i nw,.l am n cp,.i sn]):=Z.congr λj hj=>Zo;obtain⟨x',w1,w2,ik⟩:=x3.put hl cs F Z2 h1 h2;have cs2:=((((cs.set (o:=0) Zb (.s s1)).set (o:=1) Zb (.s s2)).set (o:=2) Zb (.i nw)).set (o:=3) Zb (.l am n cp)).set (o:=4) Zb (.i sn);have h:=hK (t 5) _ p' A9 A9 Z2 F (hr.keep2 AW F Za (λb off e=>by have:=FO b off e;omega)) (AA ⟨Zb,⟨⟨l,Ox.fr F Za⟩,an.fr F Ox.lt Za,⟨_,_,_,_,_,_,_,Z2⟩,cs2,b.fr F Za,⟨x',⟨w1.1.trans x1.1,w1.2.trans x1.2⟩,⟨w2.1.trans x2.1,w2.2.1.trans x2.2.1,w2.2.2.trans x2.2.2⟩,ik⟩,zs.fr F zz.lt Za,zz.fr F Za⟩⟩);have HK:=Ab h;clear hK hg hl F Z Z2 h AW ik b zz cs cs2 an zs x1 x2 x3 w1 w2 Ox;exact Yk
  .obtain⟨k,g3⟩:=hg 3 (AR rfl);have h:=hK (.i k) X p' A9 A9 ⟨k,rfl⟩ (AB.refl _ _) AW (AA ⟨Zb,hJ⟩);refine Au rfl rfl ?_;clear hK hg;go_simp;simpa[AX,g3]using h
 .intro t X p' hb CO Dj AW hF;rcases hF with⟨h,_⟩|⟨_,gk,hg⟩;.omega
  .obtain⟨k,g6⟩:=hg 6 Zb;exact hQ t X k hb (hg 4 Zb) gk (hg 5 Zb) g6
def Dr9 (w:World) (e:Ending) (w':World):Prop:=∃(y:Bk) (f1 f2 f3:OA) (e1 e2 e3:Nat) (s1 s2:ByteArray) (nw sn:Int) (am:OA) (n cp:Nat) (os:Nat->Ob) (k:Int),e=.returned (.tuple #[.agg (vB y f1 f2 f3 e1 e2 e3),.agg #[.s s1,.s s2,.i nw,.l am n cp,.i sn],.i k])/\N5 w' y f1 f2 f3/\LK w' w.1.size s1 s2 nw sn am n os/\Below w.1.size w w'
theorem F'.startW (h:F' w w1 ad nn cq) (hf:Below w1.1.size w1 w3) (hB:N5 w3 Y b1 b2 b3):xV w.1.size (w.1.size+1) w3.1.size (w3.1.size+1) Y b1 b2 b3 k1 k2 k3 s1 s2 nw sn am n cp ((w3.alloc (.cells (vB Y b1 b2 b3 k1 k2 k3) 36)).alloc (.cells #[.s s1,.s s2,.i nw,.l am n cp,.i sn] 25))/\Below w1.1.size w1 ((w3.alloc (.cells (vB Y b1 b2 b3 k1 k2 k3) 36)).alloc (.cells #[.s s1,.s s2,.i nw,.l am n cp,.i sn] 25)):=by
 have hb:Below w3.1.size w3 ((w3.alloc (.cells (vB Y b1 b2 b3 k1 k2 k3) 36)).alloc (.cells #[.s s1,.s s2,.i nw,.l am n cp,.i sn] 25)):=((Ap _ _).alloc A9 _).alloc Ze _;have b:=AE.new (w:=w3) (l:=(JR Y b1 b2 b3 k1 k2 k3)) (t:=36) (Ak (w3.alloc (.cells (vB Y b1 b2 b3 k1 k2 k3) 36)) (.cells #[.s s1,.s s2,.i nw,.l am n cp,.i sn] 25));have z:=AE.new (w:=w3.alloc (.cells (vB Y b1 b2 b3 k1 k2 k3) 36)) (l:=[.s s1,.s s2,.i nw,.l am n cp,.i sn]) (t:=25) Dx;have zs:LL ((w3.alloc (.cells (vB Y b1 b2 b3 k1 k2 k3) 36)).alloc (.cells #[.s s1,.s s2,.i nw,.l am n cp,.i sn] 25)) (w3.1.size+1):=λj hj=>by have e:=Al (w3.alloc (.cells (vB Y b1 b2 b3 k1 k2 k3) 36)) #[.s s1,.s s2,.i nw,.l am n cp,.i sn] 25 j;rw[Av]at e;rw[e];match j,hj with
  |n+5,_=>simp
 rw[Av]at z;have F:=hf.trans (hb.mono hf.size);exact⟨⟨⟨_,h.a.below F h.a.lt⟩,h.an.below F h.a.lt,⟨_,_,_,_,_,_,_,h.c.below F h.c.lt⟩,h.cs.fr (Aj (P:=λ_=>False) F) h.c.lt (λe=>e),b,⟨Y,⟨rfl,rfl⟩,⟨rfl,rfl,rfl⟩,hB.fr (Aj (P:=λ_=>False) hb) (λ_ e=>e.elim)⟩,zs,z⟩,F⟩
def StC (w:World) (ad:OA) (nn cq lo Bb z:Nat) (Y:Bk) (b1 b2 b3:OA) (k1 k2 k3:Nat) (s1 s2:ByteArray) (sn:Int) (am:OA) (n cp:Nat) (X:World):Prop:=∃(nw:Int) (os:Nat->Ob) (p':Nat),p'<=100/\Rd X (w.1.size+1+1) ad nn cq p'/\xV w.1.size (w.1.size+1) Bb z Y b1 b2 b3 k1 k2 k3 s1 s2 nw sn am n cp X/\LK X lo s1 s2 nw sn am n os/\Below w.1.size w X
theorem Vw (ad:OA) (nB cap:Nat) (w:World) (hn:(nB:Int)<=1048576) (hc:nB<=cap) (hb:FT w ad nB) (FO:∀b off,ad=some ⟨b,off,none⟩->b<w.1.size):Calls prog 8 #[.l ad nB cap] w λe w'=>Dr9 w e w':=by
 have Ep:=Ab hb;have MU:Below w.1.size w ((w.alloc (.cells #[.i 0,.i 0,.l none 0 0,.l none 0 0,.l none 0 0] 36)).alloc (.cells #[.s ⟨#[]⟩,.s ⟨#[]⟩,.i 0,.l none 0 0,.i 0] 25)):=((Ap _ _).alloc A9 _).alloc Ze _;have MA:=Ab (show FT ((w.alloc (.cells #[.i 0,.i 0,.l none 0 0,.l none 0 0,.l none 0 0] 36)).alloc (.cells #[.s ⟨#[]⟩,.s ⟨#[]⟩,.i 0,.l none 0 0,.i 0] 25)) ad nB from λi hi=>by obtain⟨b,off,v,e1,e2,e3,e4,e5⟩:=hb i hi;exact⟨b,off,v,e1,Aa e2 MU.size,(MU.cell (p:=⟨b,off+i,none⟩) e2).trans e3,e4,e5⟩);have MH:=Ab FO;clear hb FO MU;go_enter func8,ntmps8;go_upto_region 2 with(go_at_call 13;go_must(refine(Nc ad nB cap _ hn hc MA).mono ?_;rintro e w1 ⟨nn,cq,rfl,PT,Ds⟩));have HS:=Ab (F'.new PT Ds);clear PT Ds MA;have hRl:=HS.r.lt;have YS:=Ab (show FT w1 ad nB from λi hi=>by obtain⟨b,off,v,e1,e2,e3,e4,e5⟩:=Ep i hi;exact⟨b,off,v,e1,Aa e2 HS.b.size,(HS.b.cell (p:=⟨b,off+i,none⟩) e2).trans e3,e4,e5⟩);have hsw:=HS.b.size;go_upto_region 3 with(go_at_call 25;go_must(refine(Re ad nB cap _ hn hc YS (λb off e=>by have:=MH b off e;omega)).mono ?_;rintro e w3 ⟨Y,b1,b2,b3,k1,k2,k3,s1,s2,nw,sn,am,n,cp,os,rfl,j7,hM,hf⟩));have Ks:=hM.k;have Qt:=hM.p;have VH:=hf.size;have HJ:=Ab (HS.startW (k1:=k1) (k2:=k2) (k3:=k3) (s1:=s1) (s2:=s2) (nw:=nw) (sn:=sn) (am:=am) (n:=n) (cp:=cp) hf j7);have C6:Below w3.1.size w3 ((w3.alloc (.cells (vB Y b1 b2 b3 k1 k2 k3) 36)).alloc (.cells #[.s s1,.s s2,.i nw,.l am n cp,.i sn] 25)):=((Ap _ _).alloc A9 _).alloc Ze _;have YA:=Ab (HS.r.below HJ.out.2);have VE:=Ab (hM.fr (Aj (P:=λ_=>False) C6) (λ_ _ e=>e));clear hf j7 hM C6 Ep YS hn hc;go_upto_if 17 with(go_at_call 16;go_must(refine(Bt (w.1.size+1+1) ad nn cq _ 12 _ YA Za Zb Zb).mono ?_;rintro e w5 ⟨y,rfl,_,hy,gF,ka⟩;have j6:=hy Zb;clear hy));have jZ:=Ab ka;have Y7:=Ab (VE.fr gF (λq e1 e2=>by omega));have qW:=Ab (HJ.out.1.fr gF Za Za Za Za (λq hq=>by subst hq;exact YA.ns));have SG:=Ab (HS.b.trans (((Aj (P:=λq=>q=w.1.size+1+1) HJ.out.2).trans gF).below (λq hq e=>by omega) HS.b.size));clear ka gF YA VE HJ HS;go_cut[](λwx=>StC w ad nn cq w1.1.size w3.1.size (w3.1.size+1) Y b1 b2 b3 k1 k2 k3 s1 s2 sn am n cp wx);case first=>
  --<f1
  by_cases y0:y=0;.subst y0;have z2:=qW.z.cell 2 Zb;simp only[AV,Ac,Ad]at z2;have zf:=qW.z.free;have zl:=qW.z.lt;go_wp2_with (go_at_call 16;go_must(refine(Bt (w.1.size+1+1) ad nn cq _ 30 _ jZ Za Zb Zb).mono ?_;rintro e w6 ⟨v,rfl,_,hv,gp,uo⟩;have hv3:=hv Zb;clear hv;have HJ6:=Ab (qW.fr gp Za Za Za Za (λq hq=>by subst hq;exact jZ.ns));have HM6:=Ab (Y7.fr gp (λq e1 e2=>by omega));have z2:=HJ6.z.cell 2 Zb;simp only[AV,Ac,Ad]at z2;have zf:=HJ6.z.free;have zl:=HJ6.z.lt;have Qs:=Ab (SG.trans (gp.below (λq hq e=>by omega) SG.size));have kB:=Ab uo;clear gp uo));go_meet;case rel=>obtain⟨q1,os',q2⟩:=HJ6.s HM6 (v:Int) Za Za Za Za;have F:=(AB.refl (λq=>q=w3.1.size+1) w6).setCell (p:=⟨w3.1.size+1,2,none⟩) rfl (.i (v:Int));exact⟨v,os',_,Za,kB.keep2 kB F Za (λb off e=>by have:=MH b off e;omega),q1,q2,Qs.trans (F.below (λq hq e=>by omega) Qs.size)⟩
  .go_wp2_with fail;go_meet;case rel=>exact⟨nw,os,_,Za,jZ,qW,Y7,SG⟩
  --f1>
 case rest=>have HL:=Ab hcut;clear hcut jZ Y7 qW SG os nw;obtain⟨nw,os,p',CO,hr,hJ,hM,hB⟩:=HL.out;have HR:=Ab hr;have HJ:=Ab hJ;have HM:=Ab hM;have HB:=Ab hB;clear HL hr hJ hM hB;go_upto_region 5 with fail;refine Acr (AV [_,_,_,_,undef,undef,_]) (w.1.size+1+1) ad nn cq p' w.1.size (w.1.size+1) w3.1.size (w3.1.size+1) Y b1 b2 b3 k1 k2 k3 s1 s2 nw sn am n cp _ HR Za HJ Ks Qt Za Za Za Za MH rfl _ ?_;intro t X k hf ha hJ hc ht;obtain⟨x,x1,x2,x3⟩:=hJ.k;dsimp only[JR]at ha;rw[<-x1.1,<-x1.2,<-x2.1,<-x2.2.1,<-x2.2.2]at ha;obtain⟨a0,a1,a2,a3,a4⟩:=JQ ha;obtain⟨c0,c1,c2,c3,c4⟩:=JQ hc;rw[ht];have HZ:=Ab (show N5 X x b1 b2 b3/\LK X w.1.size s1 s2 nw sn am n os/\Below w.1.size w X from⟨x3,(HM.fr hf (λq hq e=>by omega)).lo Za,HB.trans (hf.below (λq hq e=>by omega) HB.size)⟩);clear hf ha hc hJ HM HJ HR HB ht x1 x2 x3;go_wp2_with fail;refine bodyPost_ret (v:=.tuple #[.agg (vB x b1 b2 b3 k1 k2 k3),.agg #[.s s1,.s s2,.i nw,.l am n cp,.i sn],.i k]) (by simp[results,results8,go_sem,a0,a1,a2,a3,a4,c0,c1,c2,c3,c4]) rfl ⟨x,b1,b2,b3,k1,k2,k3,s1,s2,nw,sn,am,n,cp,os,k,rfl,HZ⟩
  --r1>
theorem Af2 (w:World):IC (w.alloc (.cells #[.i 0,.l none 0 0,.i 0] 28)) w.1.size/\∀j,3<=j->(w.alloc (.cells #[.i 0,.l none 0 0,.i 0] 28)).cell? ⟨w.1.size,j,none⟩=none:=by
 refine⟨λj s e=>?_,λj hj=>?_⟩;.rw[Al w #[.i 0,.l none 0 0,.i 0] 28 j]at e;match j,e with
  |0,e=>cases e
  |1,e=>cases e
  |2,e=>cases e
  |n+3,e=>simp at e
 .rw[Al w #[.i 0,.l none 0 0,.i 0] 28 j];match j,hj with
  |n+3,_=>simp
structure VV (X:World) (lo:Nat) (an:OA) (g m cn:Nat) (x:Nat->Ch) (c:Nat->Value) (An:Nat->Option Addr) (Cn:Nat->Nat):Prop where
 rw:Rw X an g m cn 9 c
 lg:0<cn->lo<=g
 d:∀i,i<m->OK c i (x i) (An i) (Cn i)hold:∀i,i<m->AK X lo X.1.size (An i) (x i).ob.hn (x i).ob.hs
 ne:∀i,i<m->∀b off,An i=some ⟨b,off,none⟩->(x i).ob.hn≠0->¬b=g
 le:m<=200
 f:∀i,i<m->Cu (x i).ob
theorem VV.fr{an:OA}{g m cn:Nat}{x:Nat->Ch}{c:Nat->Value}{An:Nat->Option Addr}{Cn:Nat->Nat}(h:VV X lo an g m cn x c An Cn) (hF:AB U X Z) (hU:∀q,U q->q<lo\/IC X q) (hg:0<cn->¬U g):VV Z lo an g m cn x c An Cn:=by
 refine⟨h.rw.fr hF hg,h.lg,h.d,λi hi j hj=>?_,h.ne,h.le,h.f⟩;obtain⟨b,off,e1,e2,e3,e4⟩:=h.hold i hi j hj;refine⟨b,off,e1,e2,Aa e3 hF.size,(hF.cell (p:=⟨b,off+j,none⟩) e3 (λu=>?_)).trans e4⟩;rcases hU b u with q|q;.omega
 .exact q _ _ e4
theorem Adb{fr most:Int}{e:Ending}(hv:VB Y) (hf:BS Y) (h:nwP X Z Y ki pr fr most e) (hl:lo<=X.1.size):∃(cd fv:Int) (an:OA) (g m cn:Nat) (x:Nat->Ch) (c:Nat->Value) (An:Nat->Option Addr) (Cn:Nat->Nat),e=.returned (.agg #[.i cd,.l an m cn,.i fv])/\VV Z lo an g m cn x c An Cn:=by
 obtain⟨hb,v,n,y,fv,A,C,hb',rfl,bd,h1,h2⟩:=h;have hn:n=S7 Y ki pr fr most/\∀i,i<n->y i=jK Y ki pr fr most i:=by
  by_cases hK:KY Y fr most=0;.obtain⟨_,_,k,hk,_⟩:=Ra hK;obtain⟨e1,e2,e3⟩:=h2 hK k hk;obtain rfl:k=(fr-Y.f).toNat:=Za;exact⟨by rw[e1,S7,if_pos hK],λi _=>by rw[e2];rfl⟩
  .obtain⟨e1,e2⟩:=h1 hK;exact⟨by rw[e1,S7,if_neg hK],λi hi=>by omega⟩
 have Om:n<=200:=by rw[hn.1];exact AJ (UK _ _ _ _ _) hv.hn
 have BG:∀i,i<n->Cu (y i).ob:=λi hi=>by obtain⟨j,hj,e⟩:=QA (show i<S7 Y ki pr fr most by rw[<-hn.1];exact hi);rw[hn.2 i hi,e];exact hf.hs j hj
 obtain⟨c,r,DR⟩:=bd.row;rcases r.2 with⟨rfl,rfl⟩|⟨g,cap,cur,rfl,h3,h4,h5,_⟩;.exact⟨_,fv,none,0,0,0,y,c,A,C,rfl,⟨⟨λh0=>absurd h0 (Bc _),AG _,λh0=>absurd h0 (Bc _),λj hj=>by omega⟩,λh0=>absurd h0 (Bc _),DR,λi hi=>absurd hi (Ae _),λi hi=>absurd hi (Ae _),Om,BG⟩⟩
 .refine⟨_,fv,_,g,n,cap,y,c,A,C,rfl,⟨⟨λ_=>rfl,h5,λ_=>(Rm r).1,λj hj=>(JK r).cell j hj⟩,λ_=>by omega,DR,λi hi j hj=>?_,λi hi b off e h0 eb=>?_,Om,BG⟩⟩;.obtain⟨b,off,e1,e2,e3,e4,_⟩:=bd.hold i hi j hj;have h0:(y i).ob.hn≠0:=Za;have:=bd.hlt i hi h0;exact dJ
  .obtain⟨b2,off2,e1,e2,e3,_⟩:=bd.hold i hi 0 Za;rw[e]at e1;injection e1 with e1;injection e1 with e1;exact bd.ne i hi h0 (congrArg some (show g=hb' i by omega))
def oj (R:Nat) (_Bb zm:Nat) (Y:Bk) (b1 b2 b3:OA) (k1 k2 k3:Nat) (s1 s2:ByteArray) (nw _sn:Int) (_am:OA) (_n _cp:Nat) (W:World) (i:Nat) (v:Value) (X:World):Prop:=match i with
 |0=>v=.agg (vB Y b1 b2 b3 k1 k2 k3)
 |1=>v=.p zm 0
 |2=>v=.s s1
 |3=>v=.p zm 1
 |4=>v=.s s2
 |5=>v=.p zm 2
 |6=>v=.i nw
 |7=>v=.agg #[.s s1,.s s2,.i nw]
 |8=>v=.p R 0
 |9=>∃k:Nat,k<6/\v=.i k
 |10=>∃k:Int,v=.i k
 |11=>∃(cd fv:Int) (an:OA) (g m cn:Nat) (x:Nat->Ch) (c:Nat->Value) (An:Nat->Option Addr) (Cn:Nat->Nat),v=.agg #[.i cd,.l an m cn,.i fv]/\VV X W.1.size an g m cn x c An Cn
 |12=>∃z:Nat,v=.p z 0/\W.1.size<=z/\AE X z 3 (AV [.i 0,.l none 0 0,.i 0])/\IC X z/\∀j,3<=j->X.cell? ⟨z,j,none⟩=none
 |_=>True
theorem Aa3{p2 p3 Ed Eh Ek Ey Ev Ew Ex EM EH EI EV Er EB ER ES EQ EC ED Eo EW EU EK EL F9 FY F8 Ga FM Fz Fy FN Fv Gy Gx GO GI GQ Gw Gv Fu G9 Ha Hf Hd Hb Hc GL GK Hg In Ik Im Hj He G8 Hi Hh Ie J8 Jr Jp:Value}(t0:Nat->Value) (R:Nat) (ad:OA) (nn cap p:Nat) (Bb zm:Nat) (Y:Bk) (b1 b2 b3:OA) (k1 k2 k3:Nat) (s1 s2:ByteArray) (nw sn:Int) (am:OA) (n cp:Nat) (W:World) (hr:Rd W R ad nn cap p) (hp:p<=600000) (Uw:Bb<W.1.size) (Ol:¬Bb=R) (By:AE W Bb 5 (AV (JR Y b1 b2 b3 k1 k2 k3))) (hmz:zm<W.1.size) (hmR:¬zm=R) (hmr:AE W zm 5 (AV [.s s1,.s s2,.i nw,.l am n cp,.i sn])) (hY:Ip W Y b1 b2 b3 k3) (h2:s2.size<=8) (Dg:mk=λt=>#[p0,p1,p2,p3,.p R 0,.p Bb 0,.p zm 0,t 12,p8,p9,Ea,Ee,Em,D1,DW,DN,t 0,t 1,t 2,t 3,t 4,t 5,t 6,t 7,t 8,t 9,t 10,t 11,Ed,Eh,Ek,Ey,Ev,Ew,Ex,EM,EH,EI,EV,Er,EB,ER,ES,EQ,EC,ED,Eo,EW,EU,EK,EL,F9,FY,F8,Ga,FM,Fz,Fy,FN,Fv,Gy,Gx,GO,GI,GQ,Gw,Gv,Fu,G9,Ha,Hf,Hd,Hb,Hc,GL,GK,Hg,In,Ik,Im,Hj,He,G8,Hi,Hh,Ie,J8,Jr,Jp]) (Q:Exit->Act->World->Prop) (hQ:∀(t:Nat->Value) (z:Nat) (cd fv:Int) (an:OA) (g m cn:Nat) (x:Nat->Ch) (c:Nat->Value) (An:Nat->Option Addr) (Cn:Nat->Nat) (pz:Nat) X,t 12=.p z 0->W.1.size<=z->AE X z 3 (AV [.i cd,.l an m cn,.i fv])->VV X W.1.size an g m cn x c An Cn->(0<cn->¬g=z)->IC X z->AB (λq=>q=R) W X->p<=pz->pz<=p+13->Rd X R ad nn cap pz->Q .normal ⟨mk t,[]⟩ X):Code.wp prog (rg Tryz.f4 3) Q ⟨mk t0,[]⟩ W:=by
 have Le:=hr.lt;refine Hz Zc 13 18 1 mk t0 R ad nn cap p (oj R Bb zm Y b1 b2 b3 k1 k2 k3 s1 s2 nw sn am n cp W) (λa X=>∃(t:Nat->Value) (z:Nat) (cd fv:Int) (an:OA) (g m cn:Nat) (x:Nat->Ch) (c:Nat->Value) (An:Nat->Option Addr) (Cn:Nat->Nat) (pz:Nat),a=⟨mk t,[]⟩/\t 12=.p z 0/\W.1.size<=z/\AE X z 3 (AV [.i cd,.l an m cn,.i fv])/\VV X W.1.size an g m cn x c An Cn/\(0<cn->¬g=z)/\IC X z/\AB (λq=>q=R) W X/\p<=pz/\pz<=p+13/\Rd X R ad nn cap pz) Zc Zc Zc ?_ rfl hr ?_ ?_ ?_ ?_;all_goals subst Dg
 .intro i v X Z p' hi h hF Lb hR hX;iterate 13 (rcases i with _|i;.first|exact h|(obtain⟨cd,fv,an,g,m,cn,x,c,An,Cn,e,hm⟩:=h;exact⟨cd,fv,an,g,m,cn,x,c,An,Cn,e,hm.fr hF (λq hq=>AA Za) (λh0 e=>by have:=hm.lg h0;omega)⟩)|(obtain⟨z,e,z1,z2,z3,z4⟩:=h;exact⟨z,e,z1,z2.fr2 hF Za,z3.fr hF z2.lt Za,λj hj=>(hF.cell (p:=⟨z,j,none⟩) z2.lt (λe=>by have e:z=R:=e;omega)).trans (z4 j hj)⟩))
  omega
 .intro i hi t X K p' hb CO Dj AW hg hK;rcases(Aff i Za)with rfl|rfl|rfl|rfl|rfl|rfl|rfl|rfl|rfl|rfl|rfl|rfl|rfl;.exact jm
  .exact Di
  .have AY:t 1=_:=hg 1 (AR rfl);exact ny
  .exact Di
  .have AY:t 3=_:=hg 3 (AR rfl);exact ny
  .exact Di
  .have AY:t 5=_:=hg 5 (AR rfl);exact ny
  .have AY:t 2=_:=hg 2 (AR rfl);have Ff:t 4=_:=hg 4 (AR rfl);have UB:t 6=_:=hg 6 (AR rfl);have h:=hK _ X p' A9 Za rfl (AB.refl _ _) AW;refine Au rfl rfl ?_;clear hK hg;go_simp;simpa[AX,AY,Ff,UB]using h
  .exact Di
  .have AY:t 8=_:=hg 8 (AR rfl);exact vt
  .obtain⟨k,hk,g9⟩:=hg 9 (AR rfl);have hw:=AQ (1+(k:Int)) ⟨Za,Za⟩;have h:=hK (.i (1+(k:Int))) X p' A9 Za ⟨_,rfl⟩ (AB.refl _ _) AW;refine Au rfl rfl ?_;clear hK hg;go_simp;simpa[AX,g9,hw]using h
  .have AY:t 0=_:=hg 0 (AR rfl);have Ff:t 7=_:=hg 7 (AR rfl);obtain⟨most,g10⟩:=hg 10 (AR rfl);have HY:=Ab (hY.pick hb hr.ns);have iv:=hb.size;refine Au rfl rfl ?_;have HK:=Ab hK;have HR:=Ab AW;clear hK hg AW;go_simp;go_at_call 15;refine(NB Y b1 b2 b3 k1 k2 k3 s1 s2 nw most X 0 X.1.size A9 HY.f HY.i Za).mono ?_;rintro r Z hN;obtain⟨cd,fv,an,g,m,cn,x,c,An,Cn,rfl,hI⟩:=Adb HY.v HY.f hN iv;have Nt:=hN.1;have h:=HK _ Z p' A9 Za ⟨cd,fv,an,g,m,cn,x,c,An,Cn,rfl,hI⟩ (Aj Nt) (HR.below Nt);simpa[AX,AY,Ff,g10]using h
  .have h:=hK (.p (X.1.size) 0) (X.alloc (.cells #[.i 0,.l none 0 0,.i 0] 28)) p' A9 Za ⟨X.1.size,rfl,hb.size,AE.new (l:=[.i 0,.l none 0 0,.i 0]) (t:=28) Dx,(Af2 X).1,(Af2 X).2⟩ (Aj Do) (AW.below Do);exact JC
 .intro t X K p' hb CO Dj AW hg hK;obtain⟨cd,fv,an,g,m,cn,x,c,An,Cn,g11,hM⟩:=hg 11 Za Za;obtain⟨z,g12,hz,QI,Ss,hsh⟩:=hg 12 Za Za;have rf:=QI.free;have rl:=QI.lt;obtain⟨r0,r1,r2⟩:=CT3 QI;have R3:=(((QI.set (o:=0) Za (.i cd)).set (o:=1) Za (.l an m cn)).set (o:=2) Za (.i fv));have F3:=(((hb.far hz 0 (.i cd)).far hz 1 (.l an m cn)).far hz 2 (.i fv));have D3:=(hr.far (hr.far (hr.far AW hz 0 (.i cd)) hz 1 (.l an m cn)) hz 2 (.i fv));have N3:=((Ss.set r0 (v:=.i cd) (λs e=>by cases e)).set ((QI.set (o:=0) Za (.i cd)).cell 1 Za) (v:=.l an m cn) (λs e=>by cases e)).set (((QI.set (o:=0) Za (.i cd)).set (o:=1) Za (.l an m cn)).cell 2 Za) (v:=.i fv) (λs e=>by cases e);have gz:0<cn->¬g=z:=λh0 e=>by obtain⟨u,hu⟩:=(hM.rw.room h0).has 8 Za;rw[e,hsh 8 Zb]at hu;cases hu
  have M3:=hM.fr ((((AB.refl (λq=>q=z) X).setCell (p:=⟨z,0,none⟩) rfl (.i cd)).setCell (p:=⟨z,1,none⟩) rfl (.l an m cn)).setCell (p:=⟨z,2,none⟩) rfl (.i fv)) (λq hq=>by subst hq;exact Az Ss) gz;have h:=hK _ _ ⟨t,z,cd,fv,an,g,m,cn,x,c,An,Cn,p',rfl,g12,hz,⟨R3.lt,R3.free,λj hj=>by rw[R3.cell j hj];rcases(show j=0\/j=1\/j=2 by omega)with rfl|rfl|rfl<;>rfl⟩,M3,gz,N3,F3,CO,Za,D3⟩;have HK:=Ab h;clear hK hg QI h R3 F3 D3 M3 N3;refine Au rfl rfl ?_;go_simp;simpa[g11,g12]using HK.out
 .intro h;omega
 .rintro a X ⟨t,z,cd,fv,an,g,m,cn,x,c,An,Cn,pz,rfl,z1,z2,z3,z4,z5,z5b,z6,z7,z8,z9⟩;exact hQ t z cd fv an g m cn x c An Cn pz X z1 z2 z3 z4 z5 z5b z6 z7 z8 z9
end Go.Proofs.YtdknjmgdgnmhjaaGreat
