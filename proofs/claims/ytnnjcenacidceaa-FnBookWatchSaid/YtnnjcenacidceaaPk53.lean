import Derived.Test.YtnnjcenacidceaaPk52
import Derived.Deep.Light
import Derived.Deep.DeepCutAuto
import Derived.Deep.RegionWith
set_option maxRecDepth 100000
set_option maxHeartbeats 4000000
namespace Go.Proofs.Ytnnjcenacidceaa
open Go.RowKit Go.Proofs.Try
theorem xC{X:World}{A:Nat}{l:List Value}(y:Bk)(b1 b2 b3:OA)(e1 e2 e3:Nat)(ha:AN X A 5 (AR l))(hn:MG X A):∃Y,Y=(((((X.setCell ⟨A,0,none⟩ (.int .i64 y.now)).setCell ⟨A,1,none⟩ (.int .i64 y.floor)).setCell ⟨A,2,none⟩ (.slice b1 y.on e1)).setCell ⟨A,3,none⟩ (.slice b2 y.hn e2)).setCell ⟨A,4,none⟩ (.slice b3 y.tn e3))/\AN Y A 5 (AR [.int .i64 y.now,.int .i64 y.floor,.slice b1 y.on e1,.slice b2 y.hn e2,.slice b3 y.tn e3])/\Az (λq=>q=A) X Y/\MG Y A:=by
 have F:=(((((Az.refl (λq=>q=A) X).setCell (p:=⟨A,0,none⟩) rfl (.int .i64 y.now)).setCell (p:=⟨A,1,none⟩) rfl (.int .i64 y.floor)).setCell (p:=⟨A,2,none⟩) rfl (.slice b1 y.on e1)).setCell (p:=⟨A,3,none⟩) rfl (.slice b2 y.hn e2)).setCell (p:=⟨A,4,none⟩) rfl (.slice b3 y.tn e3);have Z:=((((ha.set (o:=0) Zb (.int .i64 y.now)).set (o:=1) Zb (.int .i64 y.floor)).set (o:=2) Zb (.slice b1 y.on e1)).set (o:=3) Zb (.slice b2 y.hn e2)).set (o:=4) Zb (.slice b3 y.tn e3);have Z2:AN _ A 5 (AR [.int .i64 y.now,.int .i64 y.floor,.slice b1 y.on e1,.slice b2 y.hn e2,.slice b3 y.tn e3]):=Z.congr λj hj=>(by rcases(show j=0\/j=1\/j=2\/j=3\/j=4 by omega)with rfl|rfl|rfl|rfl|rfl<;>rfl);refine⟨_,rfl,Z2,F,λj s e=>?_⟩;by_cases hj:j<5;.have e2:=Z2.cell j hj;rw[e]at e2;rcases(show j=0\/j=1\/j=2\/j=3\/j=4 by omega)with rfl|rfl|rfl|rfl|rfl<;>simp[AR]at e2
 .have ne:∀k,k<5->¬(⟨A,j,none⟩:Addr)=⟨A,k,none⟩:=λk hk e=>by injection e with _ e2;omega
  rw[As _ _ _ _ (λe=>ne 4 Zb e.symm),As _ _ _ _ (λe=>ne 3 Zb e.symm),As _ _ _ _ (λe=>ne 2 Zb e.symm),As _ _ _ _ (λe=>ne 1 Zb e.symm),As _ _ _ _ (λe=>ne 0 Zb e.symm)]at e;exact hn j s e
structure TK (A C T:Nat)(y:Bk)(b1 b2 b3:OA)(e1 e2 e3:Nat)(X:World):Prop where
 a:jF A X
 t:AN X T 5 (AR [.int .i64 y.now,.int .i64 y.floor,.slice b1 y.on e1,.slice b2 y.hn e2,.slice b3 y.tn e3])c:∃(u1 u2:ByteArray)(i:Int),AN X C 3 (AR [.string u1,.string u2,.int .i64 i])ci:∀j u,3<=j->¬X.cell? ⟨C,j,none⟩=some u
 k:∃x:Bk,(x.now=y.now/\x.floor=y.floor)/\(x.on=y.on/\x.hn=y.hn/\x.tn=y.tn)/\BF X 0 X.1.size x b1 b2 b3/\BL x
theorem TK.far{A C T:Nat}{y:Bk}{b1 b2 b3:OA}{e1 e2 e3:Nat}{X Y:World}{P:Nat->Prop}(h:TK A C T y b1 b2 b3 e1 e2 e3 X)(hf:Az P X Y)(hn:∀q,P q->MG X q)(hA:¬P A)(hC:¬P C)(hT:¬P T):TK A C T y b1 b2 b3 e1 e2 e3 Y:=by obtain⟨⟨⟨l,hl⟩,hns⟩,ht,⟨u1,u2,i,hc⟩,hi,⟨x,x1,x2,x3,x4⟩⟩:=h;exact⟨⟨⟨l,hl.fr hf hA⟩,hns.fr hf hl.lt hA⟩,ht.fr hf hT,⟨u1,u2,i,hc.fr hf hC⟩,λj u hj e=>hi j u hj (by rw[<-hf.cell (p:=⟨C,j,none⟩) hc.lt hC];exact e),⟨x,x1,x2,(x3.boxP hf hn uK).upTo hf.size,x4⟩⟩
theorem TK.read{A C T R:Nat}{y:Bk}{b1 b2 b3:OA}{e1 e2 e3:Nat}{X Y:World}(h:TK A C T y b1 b2 b3 e1 e2 e3 X)(hf:Az (λq=>q=R) X Y)(hn:MG X R)(hA:¬A=R)(hC:¬C=R)(hT:¬T=R):TK A C T y b1 b2 b3 e1 e2 e3 Y:=h.far hf (λq hq=>by subst hq;exact hn) hA hC hT
theorem TK.below{A C T:Nat}{y:Bk}{b1 b2 b3:OA}{e1 e2 e3:Nat}{X Y:World}(h:TK A C T y b1 b2 b3 e1 e2 e3 X)(hb:Below X.1.size X Y):TK A C T y b1 b2 b3 e1 e2 e3 Y:=h.far (Aq (P:=λ_=>False) hb) (λ_q hq=>hq.elim) (λe=>e) (λe=>e) (λe=>e)
theorem TK.putA{A C T:Nat}{y:Bk}{b1 b2 b3:OA}{e1 e2 e3:Nat}{X Y:World}{l:List Value}(h:TK A C T y b1 b2 b3 e1 e2 e3 X)(hYt:AN Y A 5 (AR l))(hf:Az (λq=>q=A) X Y)(hYn:MG Y A)(hAC:¬A=C)(hAT:¬A=T):TK A C T y b1 b2 b3 e1 e2 e3 Y:=by obtain⟨⟨⟨l,hl⟩,hns⟩,ht,⟨u1,u2,i,hc⟩,hi,⟨x,x1,x2,x3,x4⟩⟩:=h;exact⟨⟨⟨_,hYt⟩,hYn⟩,ht.fr hf (λe=>hAT e.symm),⟨u1,u2,i,hc.fr hf (λe=>hAC e.symm)⟩,λj u hj e=>hi j u hj (by rw[<-hf.cell (p:=⟨C,j,none⟩) hc.lt (λe=>hAC e.symm)];exact e),⟨x,x1,x2,(x3.boxP hf (λq hq=>by subst hq;exact hns) uK).upTo hf.size,x4⟩⟩
theorem TK.putC{A C T:Nat}{y:Bk}{b1 b2 b3:OA}{e1 e2 e3:Nat}{X:World}{s1 s2:ByteArray}(h:TK A C T y b1 b2 b3 e1 e2 e3 X)(hs1:s1.size<=8)(hs2:s2.size<=8)(k:Int)(hAC:¬A=C)(hCT:¬C=T):∃Y,Y=((X.setCell ⟨C,0,none⟩ (.string s1)).setCell ⟨C,1,none⟩ (.string s2)).setCell ⟨C,2,none⟩ (.int .i64 k)/\AN Y C 3 (AR [.string s1,.string s2,.int .i64 k])/\Az (λq=>q=C) X Y/\TK A C T y b1 b2 b3 e1 e2 e3 Y:=by
 obtain⟨⟨⟨l,hl⟩,hns⟩,ht,⟨u1,u2,i,hc⟩,hi,⟨x,x1,x2,x3,x4⟩⟩:=h;have F:=((Az.refl (λq=>q=C) X).setCell (p:=⟨C,0,none⟩) rfl (.string s1)).setCell (p:=⟨C,1,none⟩) rfl (.string s2)|>.setCell (p:=⟨C,2,none⟩) rfl (.int .i64 k);have Z:=((hc.set (o:=0) Zb (.string s1)).set (o:=1) Zb (.string s2)).set (o:=2) Zb (.int .i64 k);have Z2:AN _ C 3 (AR [.string s1,.string s2,.int .i64 k]):=Z.congr λj hj=>(by rcases(show j=0\/j=1\/j=2 by omega)with rfl|rfl|rfl<;>rfl);have cX:∀j,j<3->X.cell? ⟨C,j,none⟩=some (AR [.string u1,.string u2,.int .i64 i] j):=λj hj=>hc.cell j hj;have tx:tD X (((X.setCell ⟨C,0,none⟩ (.string s1)).setCell ⟨C,1,none⟩ (.string s2)).setCell ⟨C,2,none⟩ (.int .i64 k)) C:=by
  refine⟨F,λj s e=>?_,λj b e=>?_,hi⟩
  .by_cases hj:j<3
   .rcases(show j=0\/j=1\/j=2 by omega)with rfl|rfl|rfl;.exact⟨s1,Z2.cell 0 Zb,Za⟩
    .exact⟨s2,Z2.cell 1 Zb,Za⟩
    .rw[cX 2 Zb]at e;simp[AR]at e
   .exact absurd e (hi j _ Za)
  .by_cases hj:j<3;.rw[cX j hj]at e;rcases(show j=0\/j=1\/j=2 by omega)with rfl|rfl|rfl<;>simp[AR]at e
   .exact absurd e (hi j _ Za)
 obtain⟨x',z1,z2,z3,z4⟩:=tx.book uK x3 x4;refine⟨_,rfl,Z2,F,⟨⟨⟨l,hl.fr F hAC⟩,hns.fr F hl.lt hAC⟩,ht.fr F (λe=>hCT e.symm),⟨s1,s2,k,Z2⟩,λj u hj e=>?_,⟨x',⟨z1.1.trans x1.1,z1.2.trans x1.2⟩,⟨z2.1.trans x2.1,z2.2.1.trans x2.2.1,z2.2.2.trans x2.2.2⟩,z3.upTo F.size,z4⟩⟩⟩;have ne:∀k,k<3->¬(⟨C,j,none⟩:Addr)=⟨C,k,none⟩:=λk hk e=>by injection e with _ e2;omega
 rw[As _ _ _ _ (λe=>ne 2 Zb e.symm),As _ _ _ _ (λe=>ne 1 Zb e.symm),As _ _ _ _ (λe=>ne 0 Zb e.symm)]at e;exact hi j u hj e
def lC (R A C T:Nat)(s1 s2:ByteArray)(y:Bk)(b1 b2 b3:OA)(e1 e2 e3:Nat)(i:Nat)(v:Value)(X:World):Prop:=match i with
 |0=>v=.agg #[.int .i64 y.now,.int .i64 y.floor,.slice b1 y.on e1,.slice b2 y.hn e2,.slice b3 y.tn e3]
 |1=>v=.string s1
 |2=>v=.string s2
 |3=>v=.pointer (some ⟨T,1,none⟩)
 |4=>v=.int .i64 y.floor
 |5=>v=.pointer (some ⟨R,0,none⟩)
 |6=>v=.pointer (some ⟨T,3,none⟩)
 |7=>v=.slice b2 y.hn e2
 |8=>v=.int .i64 (y.hn:Int)
 |9=>v=.int .i64 ((y.hn:Int)+3)
 |10=>∃k:Nat,v=.int .i64 k
 |11=>∃k:Int,v=.int .i64 k
 |12=>∃k:Int,v=.int .i64 k
 |13=>∃k:Int,v=.agg #[.string s1,.string s2,.int .i64 k]
 |14=>v=.pointer (some ⟨R,0,none⟩)
 |15=>∃k:Nat,k<6/\v=.int .i64 k
 |16=>AN X A 5 (AR [.int .i64 y.now,.int .i64 y.floor,.slice b1 y.on e1,.slice b2 y.hn e2,.slice b3 y.tn e3])
 |17=>∃k:Int,AN X C 3 (AR [.string s1,.string s2,.int .i64 k])
 |18=>∃k:Nat,k<6/\v=.int .i64 k
 |_=>True
def NS (R A C i q:Nat):Prop:=match i with
 |10=>q=R
 |15=>q=R
 |16=>q=A
 |17=>q=C
 |_=>False
def mP (i:Nat):Nat:=match i with
 |10=>1
 |15=>1
 |_=>0
theorem Ox{P:Prop}(h:P:=by refine Ag rfl rfl ?_;clear hK hg;go_simp;simpa[Av]using h):P:=h
theorem pS{p0 p1 p9 DX DK DV DF C9 CV CU:Value}{mk:(Nat->Value)->Array Value}(t0:Nat->Value)(R A C T:Nat)(s1 s2:ByteArray)(ad:OA)(nn cap p:Nat)(y:Bk)(b1 b2 b3:OA)(e1 e2 e3:Nat)(W:World)(hr:Rd W R ad nn cap p)(hp:p<=500000)(hJ:TK A C T y b1 b2 b3 e1 e2 e3 W)(hs1:s1.size<=8)(hs2:s2.size<=8)(hAR:¬A=R)(hCR:¬C=R)(hTR:¬T=R)(hAC:¬A=C)(hAT:¬A=T)(hCT:¬C=T)(hadA:∀b off,ad=some ⟨b,off,none⟩->¬b=A/\¬b=C)(hmk:mk=λt=>#[p0,p1,.pointer (some ⟨A,0,none⟩),.pointer (some ⟨C,0,none⟩),t 18,.pointer (some ⟨R,0,none⟩),.pointer (some ⟨T,0,none⟩),.string s1,.string s2,p9,DX,DK,DV,DF,C9,CV,CU,t 0,t 1,t 2,t 3,t 4,t 5,t 6,t 7,t 8,t 9,t 10,t 11,t 12,t 13,t 14,t 15])(Q:Exit->Act->World->Prop)(hQ:∀(t:Nat->Value)(X:World)(fr:Int)(k:Nat),Az (λq=>q=R\/(q=A\/q=C)) W X->AN X A 5 (AR [.int .i64 y.now,.int .i64 y.floor,.slice b1 y.on e1,.slice b2 y.hn e2,.slice b3 y.tn e3])->AN X C 3 (AR [.string s1,.string s2,.int .i64 fr])->TK A C T y b1 b2 b3 e1 e2 e3 X->k<6->t 18=.int .i64 k->Q .normal ⟨mk t,[]⟩ X):Code.wp prog (rg Try.f4 3) Q ⟨mk t0,[]⟩ W:=by
 have hRW:=hr.lt;refine Vh Ze 19 2 mP mk t0 R ad nn cap p (λq=>q=R\/(q=A\/q=C)) (NS R A C) (TK A C T y b1 b2 b3 e1 e2 e3) (lC R A C T s1 s2 y b1 b2 b3 e1 e2 e3) Ze Ze Zb ?_ ?_ rfl hr (hJ.below (Ao _ _).drew) ?_ ?_;all_goals subst hmk
 .intro i q h;unfold NS at h;split at h<;>first|exact AA h|exact AC (AA h)|exact AC (AC h)|exact h.elim
 .intro i j v X Y p' hi hj hij h hJX hD hRd hX;have hnA:i=16->¬NS R A C j A:=λhi16 e=>by
   unfold NS at e;split at e;.exact hAR e
   .exact hAR e
   .exact hij hi16
   .exact hAC e
   .exact e.elim
  have hnC:i=17->¬NS R A C j C:=λhi17 e=>by
   unfold NS at e;split at e;.exact hCR e
   .exact hCR e
   .exact hAC e.symm
   .exact hij hi17
   .exact e.elim
  rcases(show i=0\/i=1\/i=2\/i=3\/i=4\/i=5\/i=6\/i=7\/i=8\/i=9\/i=10\/i=11\/i=12\/i=13\/i=14\/i=15\/i=16\/i=17\/i=18 by omega)with rfl|rfl|rfl|rfl|rfl|rfl|rfl|rfl|rfl|rfl|rfl|rfl|rfl|rfl|rfl|rfl|rfl|rfl|rfl;.exact h
  .exact h
  .exact h
  .exact h
  .exact h
  .exact h
  .exact h
  .exact h
  .exact h
  .exact h
  .exact h
  .exact h
  .exact h
  .exact h
  .exact h
  .exact h
  .exact AN.fr h hD (λe=>hnA rfl e)
  .obtain⟨k,h⟩:=h;exact⟨k,h.fr hD (λe=>hnC rfl e)⟩
  .exact h
 .intro i hi t X K p' hb hp1 hp2 hrd hJ hg hK;rcases(show i=0\/i=1\/i=2\/i=3\/i=4\/i=5\/i=6\/i=7\/i=8\/i=9\/i=10\/i=11\/i=12\/i=13\/i=14\/i=15\/i=16\/i=17\/i=18 by omega)with rfl|rfl|rfl|rfl|rfl|rfl|rfl|rfl|rfl|rfl|rfl|rfl|rfl|rfl|rfl|rfl|rfl|rfl|rfl;.have q0:=hJ.t.cell 0 Zb;have q1:=hJ.t.cell 1 Zb;have q2:=hJ.t.cell 2 Zb;have q3:=hJ.t.cell 3 Zb;have q4:=hJ.t.cell 4 Zb;simp only[AR,Aa,Ab]at q0 q1 q2 q3 q4;have h:=hK (.agg #[.int .i64 y.now,.int .i64 y.floor,.slice b1 y.on e1,.slice b2 y.hn e2,.slice b3 y.tn e3]) X p' uK uK rfl (Az.refl _ _) hrd hJ;exact Ox
  .have h:=hK (.string s1) X p' uK uK rfl (Az.refl _ _) hrd hJ;exact Ox
  .have h:=hK (.string s2) X p' uK uK rfl (Az.refl _ _) hrd hJ;exact Ox
  .have h:=hK (.pointer (some ⟨T,1,none⟩)) X p' uK uK rfl (Az.refl _ _) hrd hJ;exact Ox
  .have q0:=hJ.t.cell 0 Zb;have q1:=hJ.t.cell 1 Zb;have q2:=hJ.t.cell 2 Zb;have q3:=hJ.t.cell 3 Zb;have q4:=hJ.t.cell 4 Zb;simp only[AR,Aa,Ab]at q0 q1 q2 q3 q4;have g3:t 3=.pointer (some ⟨T,1,none⟩):=hg 3 (AQ rfl);have h:=hK (.int .i64 y.floor) X p' uK uK rfl (Az.refl _ _) hrd hJ;refine Ag rfl rfl ?_;clear hK hg;go_simp;simpa[Av,g3]using h
  .have h:=hK (.pointer (some ⟨R,0,none⟩)) X p' uK uK rfl (Az.refl _ _) hrd hJ;exact Ox
  .have h:=hK (.pointer (some ⟨T,3,none⟩)) X p' uK uK rfl (Az.refl _ _) hrd hJ;exact Ox
  .have q0:=hJ.t.cell 0 Zb;have q1:=hJ.t.cell 1 Zb;have q2:=hJ.t.cell 2 Zb;have q3:=hJ.t.cell 3 Zb;have q4:=hJ.t.cell 4 Zb;simp only[AR,Aa,Ab]at q0 q1 q2 q3 q4;have g6:t 6=.pointer (some ⟨T,3,none⟩):=hg 6 (AQ rfl);have h:=hK (.slice b2 y.hn e2) X p' uK uK rfl (Az.refl _ _) hrd hJ;refine Ag rfl rfl ?_;clear hK hg;go_simp;simpa[Av,g6]using h
  .have g7:t 7=.slice b2 y.hn e2:=hg 7 (AQ rfl);have h:=hK (.int .i64 (y.hn:Int)) X p' uK uK rfl (Az.refl _ _) hrd hJ;refine Ag rfl rfl ?_;clear hK hg;go_simp;simpa[Av,g7]using h
  .have g8:t 8=.int .i64 (y.hn:Int):=hg 8 (AQ rfl);have hw:=AJ ((y.hn:Int)+3) ⟨Za,by obtain⟨y2,_,⟨_,z,_⟩,_,zf⟩:=hJ.k;have:=zf.h;omega⟩;have h:=hK (.int .i64 ((y.hn:Int)+3)) X p' uK uK rfl (Az.refl _ _) hrd hJ;refine Ag rfl rfl ?_;clear hK hg;go_simp;simpa[Av,g8,hw]using h
  .have g5:t 5=.pointer (some ⟨R,0,none⟩):=hg 5 (AQ rfl);have g9:t 9=.int .i64 ((y.hn:Int)+3):=hg 9 (AQ rfl);have hp3:p'+1<=p+2:=hp2;have hbd:(y.hn:Int)+3<=2199023255552:=(by obtain⟨y2,_,⟨_,z,_⟩,_,zf⟩:=hJ.k;have:=zf.h;omega);refine Ag rfl rfl ?_;have HK:=Ah hK;have HR:=Ah hrd;have HJ:=Ah hJ;clear hK hg hrd hJ;go_simp;go_at_call 12;refine(A7 R ad nn cap p' ((y.hn:Int)+3) X HR Za hbd Za).mono ?_;rintro r Z ⟨k,rfl,_,hv,hf,hr2⟩;have h:=HK (.int .i64 k) Z (p'+1) Za uK ⟨k,rfl⟩ hf hr2 (HJ.read hf HR.ns hAR hCR hTR);simpa[Av,g5,g9]using h
  .have g4:t 4=.int .i64 y.floor:=hg 4 (AQ rfl);obtain⟨k,g10⟩:∃k:Nat,t 10=.int .i64 k:=hg 10 (AQ rfl);have h:=hK (.int .i64 (IntKind.i64.wrap (y.floor+(k:Int)))) X p' uK uK ⟨_,rfl⟩ (Az.refl _ _) hrd hJ;refine Ag rfl rfl ?_;clear hK hg;go_simp;simpa[Av,g4,g10]using h
  .obtain⟨k,g11⟩:∃k:Int,t 11=.int .i64 k:=hg 11 (AQ rfl);have h:=hK (.int .i64 (IntKind.i64.wrap (k-1))) X p' uK uK ⟨_,rfl⟩ (Az.refl _ _) hrd hJ;refine Ag rfl rfl ?_;clear hK hg;go_simp;simpa[Av,g11]using h
  .have g1:t 1=.string s1:=hg 1 (AQ rfl);have g2:t 2=.string s2:=hg 2 (AQ rfl);obtain⟨k,g12⟩:∃k:Int,t 12=.int .i64 k:=hg 12 (AQ rfl);have h:=hK (.agg #[.string s1,.string s2,.int .i64 k]) X p' uK uK ⟨_,rfl⟩ (Az.refl _ _) hrd hJ;refine Ag rfl rfl ?_;clear hK hg;go_simp;simpa[Av,g1,g2,g12]using h
  .have h:=hK (.pointer (some ⟨R,0,none⟩)) X p' uK uK rfl (Az.refl _ _) hrd hJ;exact Ox
  .have g14:t 14=.pointer (some ⟨R,0,none⟩):=hg 14 (AQ rfl);have hp3:p'+1<=p+2:=hp2;have hbd:(6:Int)<=2199023255552:=Zb;refine Ag rfl rfl ?_;have HK:=Ah hK;have HR:=Ah hrd;have HJ:=Ah hJ;clear hK hg hrd hJ;go_simp;go_at_call 12;refine(A7 R ad nn cap p' ((6:Int)) X HR Za hbd Za).mono ?_;rintro r Z ⟨k,rfl,_,hv,hf,hr2⟩;have h:=HK (.int .i64 k) Z (p'+1) Za uK ⟨k,by have:=hv Zb;omega,rfl⟩ hf hr2 (HJ.read hf HR.ns hAR hCR hTR);simpa[Av,g14]using h
  .have g0:t 0=.agg #[.int .i64 y.now,.int .i64 y.floor,.slice b1 y.on e1,.slice b2 y.hn e2,.slice b3 y.tn e3]:=hg 0 (AQ rfl);obtain⟨l,hl⟩:=hJ.a.r;have hns:=hJ.a.n;have c0:=hl.cell 0 Zb;have c1:=hl.cell 1 Zb;have c2:=hl.cell 2 Zb;have c3:=hl.cell 3 Zb;have c4:=hl.cell 4 Zb;have cf:=hl.free;have cl:=hl.lt;obtain⟨Y,hY,hYt,hYf,hYn⟩:=xC y b1 b2 b3 e1 e2 e3 hl hns;have h:=hK (t 16) Y p' uK uK hYt hYf (hr.keep2 hrd hYf (λe=>hAR e.symm) (λb off e=>(hadA b off e).1)) (hJ.putA hYt hYf hYn hAC hAT);rw[hY]at h;refine Ag rfl rfl ?_;clear hK hg hl hns hY hYt hYf hYn hrd hJ;go_simp;simpa[Av,g0,PD]using h
  .obtain⟨k,g13⟩:∃k:Int,t 13=.agg #[.string s1,.string s2,.int .i64 k]:=hg 13 (AQ rfl);obtain⟨u1,u2,i0,hl⟩:=hJ.c;have c0:=hl.cell 0 Zb;have c1:=hl.cell 1 Zb;have c2:=hl.cell 2 Zb;have cf:=hl.free;have cl:=hl.lt;obtain⟨Y,hY,hYt,hYf,hYJ⟩:=hJ.putC hs1 hs2 k hAC hCT;have h:=hK (t 17) Y p' uK uK ⟨k,hYt⟩ hYf (hr.keep2 hrd hYf (λe=>hCR e.symm) (λb off e=>(hadA b off e).2)) hYJ;rw[hY]at h;refine Ag rfl rfl ?_;clear hK hg hl hY hYt hYf hYJ hrd hJ;go_simp;simpa[Av,g13,PD]using h
  .obtain⟨k,hk,g15⟩:∃k:Nat,k<6/\t 15=.int .i64 k:=hg 15 (AQ rfl);have h:=hK (.int .i64 (k:Int)) X p' uK uK ⟨k,hk,rfl⟩ (Az.refl _ _) hrd hJ;refine Ag rfl rfl ?_;clear hK hg;go_simp;simpa[Av,g15]using h
 .intro t X p' hb hp1 hp2 hrd hJ hg;have h16:=hg 16 Zb;obtain⟨fr,h17⟩:=hg 17 Zb;obtain⟨k,hk,g18⟩:=hg 18 Zb;exact hQ t X fr k hb h16 h17 hJ hk g18
def cu (w:World)(e:Ending)(w':World):Prop:=∃(y:Bk)(b1 b2 b3:OA)(e1 e2 e3:Nat)(s1 s2:ByteArray),e=.returned (.tuple #[.agg #[.int .i64 y.now,.int .i64 y.floor,.slice b1 y.on e1,.slice b2 y.hn e2,.slice b3 y.tn e3],.string s1,.string s2])/\BF w' 0 w'.1.size y b1 b2 b3/\BL y/\(s1.size<=8/\s2.size<=8)/\Below w.1.size w w'
theorem TU (ad:OA)(n cap:Nat)(w:World)(hn:(n:Int)<=1048576)(hc:n<=cap)(hb:L3 w ad n)(had:∀b off,ad=some ⟨b,off,none⟩->b<w.1.size):Calls prog 11 #[.slice ad n cap] w λe w'=>cu w e w':=by
 have hB1:=An w (.cells #[.int .i64 0,.int .i64 0,.slice none 0 0,.slice none 0 0,.slice none 0 0] 27);have hb1:L3 (w.alloc (.cells #[.int .i64 0,.int .i64 0,.slice none 0 0,.slice none 0 0,.slice none 0 0] 27)) ad n:=λi hi=>by obtain⟨b,off,v,e1,e2,e3,e4,e5⟩:=hb i hi;exact⟨b,off,v,e1,Zd,(hB1.cell (p:=⟨b,off+i,none⟩) e2).trans e3,e4,e5⟩
 have Pa:=Ah hb1;have Sy:=Ah had;have HA:=Ah (AN.new (w:=w) (l:=[.int .i64 0,.int .i64 0,.slice none 0 0,.slice none 0 0,.slice none 0 0]) (t:=27) EF);have HN:=Ah (SW w);clear hb hb1 had hB1;go_enter func11,ntmps11;go_upto_region 2 with(go_at_call 10;go_must(refine(RN ad n cap _ hn hc Pa).mono ?_;rintro e w1 ⟨nn,cp,rfl,hr1,hB2⟩));have hB3:Below w.1.size w w1:=(An w _).trans (hB2.mono Zc);rw[Aw]at hr1;have ha1:=HA.below hB2 HA.lt;have hn1:=HN.below hB2 HA.lt;have WS:=Ah hr1;have HJ:=Ah (show jF w.1.size w1 from⟨⟨_,ha1⟩,hn1⟩);have Lg:=Ah hB3;have hl1:=hr1.lt;have ha1l:=ha1.lt;clear hr1 ha1 hn1 hB3 hB2 Pa HA HN;refine qR (AR [_,_,_,_,_,_,_,_,_,_,_,_,undef,_,_]) (w.1.size+1) w.1.size ad nn cp 0 _ WS Zb HJ Za (λb off e=>Ac (Sy b off e) Lg.size) (λb off e=>by have:=Sy b off e;omega) rfl _ ?_;intro t X y b1 b2 b3 e1 e2 e3 s1 s2 hf hrow hin hfit z1 z2 g13 g14;rw[g13,g14];have z0:=hrow.cell 0 Zb;have z1':=hrow.cell 1 Zb;have z2':=hrow.cell 2 Zb;have z3:=hrow.cell 3 Zb;have z4:=hrow.cell 4 Zb;simp only[AR,Aa,Ab]at z0 z1' z2' z3 z4;have hB:Below w.1.size w X:=Lg.trans (hf.below (λq hq e=>by rcases e with e|e<;>omega) Lg.size);have HI:=Ah hin;have rT:=Ah hfit;clear hin hfit hrow hf g13 g14;go_wp2_with fail;exact bodyPost_ret (v:=.tuple #[.agg #[.int .i64 y.now,.int .i64 y.floor,.slice b1 y.on e1,.slice b2 y.hn e2,.slice b3 y.tn e3],.string s1,.string s2]) (by simp[results,results11,go_sem,z0,z1',z2',z3,z4]) rfl ⟨y,b1,b2,b3,e1,e2,e3,s1,s2,rfl,HI,rT,⟨z1,z2⟩,hB⟩
def au (w:World)(e:Ending)(w':World):Prop:=∃(y:Bk)(b1 b2 b3:OA)(e1 e2 e3:Nat)(s1 s2:ByteArray)(fr:Int)(k:Nat),e=.returned (.tuple #[.agg #[.int .i64 y.now,.int .i64 y.floor,.slice b1 y.on e1,.slice b2 y.hn e2,.slice b3 y.tn e3],.agg #[.string s1,.string s2,.int .i64 fr],.int .i64 k])/\BF w' 0 w'.1.size y b1 b2 b3/\BL y/\(s1.size<=8/\s2.size<=8)/\k<6/\Below w.1.size w w'
theorem T6 (ad:OA)(n cap:Nat)(w:World)(hn:(n:Int)<=1048576)(hc:n<=cap)(hb:L3 w ad n)(had:∀b off,ad=some ⟨b,off,none⟩->b<w.1.size):Calls prog 4 #[.slice ad n cap] w λe w'=>au w e w':=by
 have e0:∀a b:World,Below a.1.size a b->L3 a ad n->L3 b ad n:=λa b hab h i hi=>by obtain⟨b,off,v,e1,e2,e3,e4,e5⟩:=h i hi;exact⟨b,off,v,e1,Ac e2 hab.size,(hab.cell (p:=⟨b,off+i,none⟩) e2).trans e3,e4,e5⟩
 have E0:=Ah e0;have Sy:=Ah had;have rQ:=Ah hb;have HA:=Ah (AN.new (w:=w) (l:=[.int .i64 0,.int .i64 0,.slice none 0 0,.slice none 0 0,.slice none 0 0]) (t:=27) EF);have HN:=Ah (SW w);have HC:=Ah (AN.new (w:=w.alloc (.cells #[.int .i64 0,.int .i64 0,.slice none 0 0,.slice none 0 0,.slice none 0 0] 27)) (l:=[.string ⟨#[]⟩,.string ⟨#[]⟩,.int .i64 0]) (t:=29) EF);have uB:=Ah (λj u (hj:3<=j)(e:((w.alloc (.cells #[.int .i64 0,.int .i64 0,.slice none 0 0,.slice none 0 0,.slice none 0 0] 27)).alloc (.cells #[.string ⟨#[]⟩,.string ⟨#[]⟩,.int .i64 0] 29)).cell? ⟨(w.alloc (.cells #[.int .i64 0,.int .i64 0,.slice none 0 0,.slice none 0 0,.slice none 0 0] 27)).1.size,j,none⟩=some u)=>show False by rw[Ak]at e;obtain⟨q,rfl⟩:∃q,j=q+3:=⟨j-3,Za⟩;simp at e);have hB0:=An (w.alloc (.cells #[.int .i64 0,.int .i64 0,.slice none 0 0,.slice none 0 0,.slice none 0 0] 27)) (.cells #[.string ⟨#[]⟩,.string ⟨#[]⟩,.int .i64 0] 29);have tU:=Ah (HA.below hB0 HA.lt);have Sd:=Ah (HN.below hB0 HA.lt);have Ev:=Ah ((An w (.cells #[.int .i64 0,.int .i64 0,.slice none 0 0,.slice none 0 0,.slice none 0 0] 27)).trans (hB0.mono Zc));have xJ:=Ah (show(w.alloc (.cells #[.int .i64 0,.int .i64 0,.slice none 0 0,.slice none 0 0,.slice none 0 0] 27)).1.size=w.1.size+1 from by simp);clear hb had e0 hB0 HA HN;go_enter func4,ntmps4;go_upto_region 1 with fail;generalize(w.alloc (.cells #[.int .i64 0,.int .i64 0,.slice none 0 0,.slice none 0 0,.slice none 0 0] 27)).alloc (.cells #[.string ⟨#[]⟩,.string ⟨#[]⟩,.int .i64 0] 29)=X0 at HC uB tU Sd Ev⊢;generalize(w.alloc (.cells #[.int .i64 0,.int .i64 0,.slice none 0 0,.slice none 0 0,.slice none 0 0] 27)).1.size=C at HC uB xJ⊢;go_upto_region 2 with(go_at_call 10;go_must(refine(RN ad n cap _ hn hc (E0 _ _ Ev rQ)).mono ?_;rintro e w1 ⟨nn,cp,rfl,hr1,hB2⟩));have Vv:=Ah hB2;have WS:=Ah hr1;clear hB2 hr1;go_upto_region 3 with(go_at_call 11;go_must(refine(TU ad n cap _ hn hc (E0 _ _ (Ev.trans (Vv.mono Ev.size)) rQ) (λb off e=>Ac (Sy b off e) (AT Ev.size Vv.size))).mono ?_;rintro e w2 ⟨y,b1,b2,b3,e1,e2,e3,s1,s2,rfl,hin,hfit,⟨z1,z2⟩,hB4⟩));have uC:=Ah hB4;have hA5:=An w2 (.cells #[.int .i64 y.now,.int .i64 y.floor,.slice b1 y.on e1,.slice b2 y.hn e2,.slice b3 y.tn e3] 27);have hCl:=HC.lt;have hAl:=tU.lt;have hRl:=WS.lt;have y1:=Vv.size;have y2:=uC.size;have hBB:Below X0.1.size X0 (w2.alloc (.cells #[.int .i64 y.now,.int .i64 y.floor,.slice b1 y.on e1,.slice b2 y.hn e2,.slice b3 y.tn e3] 27)):=(Vv.trans (uC.mono y1)).trans (hA5.mono (AT y1 y2));have hCW:C=w.1.size+1:=xJ.out;subst hCW;have HJ:=Ah (show TK w.1.size (w.1.size+1) w2.1.size y b1 b2 b3 e1 e2 e3 (w2.alloc (.cells #[.int .i64 y.now,.int .i64 y.floor,.slice b1 y.on e1,.slice b2 y.hn e2,.slice b3 y.tn e3] 27))from⟨⟨⟨_,tU.below hBB hAl⟩,Sd.below hBB hAl⟩,AN.new (l:=[.int .i64 y.now,.int .i64 y.floor,.slice b1 y.on e1,.slice b2 y.hn e2,.slice b3 y.tn e3]) (t:=27) EF,⟨_,_,_,HC.below hBB hCl⟩,λj u hj e=>uB.out j u hj (by rw[<-hBB.cell (p:=⟨w.1.size+1,j,none⟩) hCl];exact e),⟨y,⟨rfl,rfl⟩,⟨rfl,rfl,rfl⟩,hin.grow hA5,hfit⟩⟩);have iY:=Ah ((WS.below uC).below hA5);have Ma:=Ah (Ev.trans (hBB.mono Ev.size));have y3:=Ev.size;generalize w2.alloc (.cells #[.int .i64 y.now,.int .i64 y.floor,.slice b1 y.on e1,.slice b2 y.hn e2,.slice b3 y.tn e3] 27)=X at HJ iY Ma⊢;obtain⟨T,hT⟩:∃T,w2.1.size=T:=⟨_,rfl⟩;rw[hT]at HJ⊢;have hTT:w1.1.size<=T:=Za;clear hin hfit hB4 hA5 hBB hT uC HC uB tU Sd;refine pS (AR [_,_,_,_,_,_,_,_,_,_,_,_,_,_,_,_,undef,undef,_]) X0.1.size w.1.size (w.1.size+1) T s1 s2 ad nn cp 0 y b1 b2 b3 e1 e2 e3 _ iY Zb HJ z1 z2 Za Za Za Za Za Za (λb off e=>by have:=Sy b off e;omega) rfl _ ?_;intro t Y fr k hf h16 h17 hJY hk g18;rw[g18];obtain⟨x,⟨x1,x2⟩,⟨x3,x4,x5⟩,x6,x7⟩:=hJY.k;rw[<-x1,<-x2,<-x3,<-x4,<-x5]at h16;have r0:=h16.cell 0 Zb;have r1:=h16.cell 1 Zb;have r2:=h16.cell 2 Zb;have r3:=h16.cell 3 Zb;have r4:=h16.cell 4 Zb;have s0:=h17.cell 0 Zb;have s1':=h17.cell 1 Zb;have s2':=h17.cell 2 Zb;simp only[AR,Aa,Ab]at r0 r1 r2 r3 r4 s0 s1' s2';have hB:Below w.1.size w Y:=Ma.trans (hf.below (λq hq e=>by rcases e with e|e|e<;>omega) Ma.size);have HI:=Ah x6;have rT:=Ah x7;clear x1 x2 x3 x4 x5 x6 x7 hJY h16 h17 hf g18 HJ;go_wp2_with fail;exact bodyPost_ret (v:=.tuple #[.agg #[.int .i64 x.now,.int .i64 x.floor,.slice b1 x.on e1,.slice b2 x.hn e2,.slice b3 x.tn e3],.agg #[.string s1,.string s2,.int .i64 fr],.int .i64 k]) (by simp[results,results4,go_sem,r0,r1,r2,r3,r4,s0,s1',s2']) rfl ⟨x,b1,b2,b3,e1,e2,e3,s1,s2,fr,k,rfl,HI,rT,⟨z1,z2⟩,hk,hB⟩
end Go.Proofs.Ytnnjcenacidceaa
