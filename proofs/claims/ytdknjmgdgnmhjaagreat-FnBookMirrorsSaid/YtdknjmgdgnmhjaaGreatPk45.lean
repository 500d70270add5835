import Derived.Test.YtdknjmgdgnmhjaaGreatPk41
set_option maxRecDepth 100000
set_option maxHeartbeats 4000000
namespace Go.Proofs.YtdknjmgdgnmhjaaGreat
open Go.RowKit Go.Proofs.Tryz
variable {A:Array Value}{R nn cap p T g1 g2 d1 d2 d3 o h ch eh:Nat}{ad a3 ah bh:OA}{x:Bk}{y:Ob}{z:Ch}{W:World}{Q:Exit→Act→World→Prop}
def y9 (_R:Nat)(T:Nat)(x:Bk)(g1 _g2:Nat)(_a3:OA)(d1 _d2 _d3 o _h:Nat)(y:Ob)(_z:Ch)(_ah _bh:OA)(_ch _eh:Nat)(_W:World)(i:Nat)(v:Value)(_X:World):Prop:=match i with
 |0=>v=.p T 2
 |1=>v=.l (some ⟨g1,0,none⟩) x.on d1
 |2=>v=.i (o:Nat)
 |3=>v=.p T 2
 |4=>v=.l (some ⟨g1,0,none⟩) x.on d1
 |5=>v=.i (o:Nat)
 |6=>v=.pointer (some ⟨g1,o*7,none⟩)
 |7=>v=.pointer (some ⟨g1,o*7+5,none⟩)
 |8=>v=.bool y.e
 |9=>∃b:Bool,v=.bool b
 |10=>v=.pointer (some ⟨g1,o*7,none⟩)
 |11=>v=.pointer (some ⟨g1,o*7+5,none⟩)
 |_=>True
theorem sv (hA:VR A R T o h)(hr:Rd W R ad nn cap p)(_hp:p<=600000)(H:SC W R T x g1 g2 a3 d1 d2 d3 o h y z ah bh ch eh)(hQ:∀(t:Nat->Value)(b:Bool)(pz:Nat)(X0:World),True->AB (λq=>q=R) W X0->p<=pz->pz<=p+12->Rd X0 R ad nn cap pz->Q .normal ⟨C9 (Lu 207 12 t (OT A)),[]⟩ (X0.setCell ⟨g1,o*7+5,none⟩ (.bool b))):Code.wp prog (rg Tryz.f44 38) Q ⟨A,[]⟩ W:=by
 refine I2 hA 207 12 λf mk t0 h0 h5 h6 h7 Dg hm=>?_;simp only[Dg]at hQ;simp only[C9,Lu,h0,h5,h6,h7,Nat.reduceLeDiff,Nat.reduceLT,Nat.reduceAdd,Nat.reduceSub,if_true,if_false,CA]at hm;clear Dg h0 h5 h6 h7;have Le:=hr.lt;refine E7 Zc 12 1 (λj=>match j with|10=>11|_=>12) mk t0 R ad nn cap p (y9 R T x g1 g2 a3 d1 d2 d3 o h y z ah bh ch eh W) (λa X=>∃(t:Nat->Value)(b:Bool)(pz:Nat)(X0:World),a=⟨mk t,[]⟩/\X=(X0.setCell ⟨g1,o*7+5,none⟩ (.bool b))/\(True)/\AB (λq=>q=R) W X0/\p<=pz/\pz<=p+12/\Rd X0 R ad nn cap pz) Zc Zc Zc ?_ rfl hr ?_ ?_ ?_;all_goals subst hm
 .exact cO
 .intro i hi t X K p' hb CO Dj AW hg hK;rcases(ZV i Za)with rfl|rfl|rfl|rfl|rfl|rfl|rfl|rfl|rfl|rfl|rfl|rfl;.exact Di
  .exact TJ
  .exact Di
  .exact Di
  .exact eD
  .exact Di
  .exact XQ
  .exact MO
  .have AY:t 7=_:=hg 7 (AR rfl);have q:=(hb.cell (p:=⟨g1,o*7+5,none⟩) H.l1 H.n1).trans (H.c1 5 Zb);exact ZG
  .have AY:t 8=_:=hg 8 (AR rfl);have h:=hK (.bool (!y.e)) X p' A9 Za ⟨_,rfl⟩ (AB.refl _ _) AW;exact Sd
  .exact aD
  .exact Yg
 .intro t X K p' hb CO Dj AW hg hK;have AY:t 11=_:=hg 11 Za;obtain⟨b,pL⟩:=hg 9 Za;have q:=(hb.cell (p:=⟨g1,o*7+5,none⟩) H.l1 H.n1).trans (H.c1 5 Zb);have q2:=(hb.frozen (p:=⟨g1,o*7+5,none⟩) H.l1 H.n1).trans (H.f1 _);exact J_
 .exact cv
def vN (_R:Nat)(T:Nat)(x:Bk)(_g1 g2:Nat)(_a3:OA)(_d1 d2 _d3 _o h:Nat)(_y:Ob)(z:Ch)(_ah _bh:OA)(_ch _eh:Nat)(_W:World)(i:Nat)(v:Value)(_X:World):Prop:=match i with
 |0=>v=.p T 3
 |1=>v=.l (some ⟨g2,0,none⟩) x.hn d2
 |2=>v=.i (h:Nat)
 |3=>v=.p T 3
 |4=>v=.l (some ⟨g2,0,none⟩) x.hn d2
 |5=>v=.i (h:Nat)
 |6=>v=.pointer (some ⟨g2,h*9,none⟩)
 |7=>v=.pointer (some ⟨g2,h*9+1,none⟩)
 |8=>v=.bool z.g
 |9=>∃b:Bool,v=.bool b
 |10=>v=.pointer (some ⟨g2,h*9,none⟩)
 |11=>v=.pointer (some ⟨g2,h*9+1,none⟩)
 |_=>True
theorem px (hA:VR A R T o h)(hr:Rd W R ad nn cap p)(_hp:p<=600000)(H:SC W R T x g1 g2 a3 d1 d2 d3 o h y z ah bh ch eh)(hQ:∀(t:Nat->Value)(b:Bool)(pz:Nat)(X0:World),True->AB (λq=>q=R) W X0->p<=pz->pz<=p+12->Rd X0 R ad nn cap pz->Q .normal ⟨C9 (Lu 266 12 t (OT A)),[]⟩ (X0.setCell ⟨g2,h*9+1,none⟩ (.bool b))):Code.wp prog (rg Tryz.f44 46) Q ⟨A,[]⟩ W:=by
 refine I2 hA 266 12 λf mk t0 h0 h5 h6 h7 Dg hm=>?_;simp only[Dg]at hQ;simp only[C9,Lu,h0,h5,h6,h7,Nat.reduceLeDiff,Nat.reduceLT,Nat.reduceAdd,Nat.reduceSub,if_true,if_false,CA]at hm;clear Dg h0 h5 h6 h7;have Le:=hr.lt;refine E7 Zc 12 1 (λj=>match j with|10=>11|_=>12) mk t0 R ad nn cap p (vN R T x g1 g2 a3 d1 d2 d3 o h y z ah bh ch eh W) (λa X=>∃(t:Nat->Value)(b:Bool)(pz:Nat)(X0:World),a=⟨mk t,[]⟩/\X=(X0.setCell ⟨g2,h*9+1,none⟩ (.bool b))/\(True)/\AB (λq=>q=R) W X0/\p<=pz/\pz<=p+12/\Rd X0 R ad nn cap pz) Zc Zc Zc ?_ rfl hr ?_ ?_ ?_;all_goals subst hm
 .exact cO
 .intro i hi t X K p' hb CO Dj AW hg hK;rcases(ZV i Za)with rfl|rfl|rfl|rfl|rfl|rfl|rfl|rfl|rfl|rfl|rfl|rfl;.exact Di
  .exact Tr
  .exact Di
  .exact Di
  .exact dX
  .exact Di
  .exact eX
  .exact MO
  .have AY:t 7=_:=hg 7 (AR rfl);have q:=(hb.cell (p:=⟨g2,h*9+1,none⟩) H.l2 H.n2).trans (H.c2 1 Zb);exact ZG
  .have AY:t 8=_:=hg 8 (AR rfl);have h:=hK (.bool (!z.g)) X p' A9 Za ⟨_,rfl⟩ (AB.refl _ _) AW;exact Sd
  .exact iK
  .exact Yg
 .intro t X K p' hb CO Dj AW hg hK;have AY:t 11=_:=hg 11 Za;obtain⟨b,pL⟩:=hg 9 Za;have q:=(hb.cell (p:=⟨g2,h*9+1,none⟩) H.l2 H.n2).trans (H.c2 1 Zb);have q2:=(hb.frozen (p:=⟨g2,h*9+1,none⟩) H.l2 H.n2).trans (H.f2 _);exact J_
 .exact cv
def vE (_R:Nat)(T:Nat)(x:Bk)(_g1 g2:Nat)(_a3:OA)(_d1 d2 _d3 _o h:Nat)(_y:Ob)(z:Ch)(_ah _bh:OA)(_ch _eh:Nat)(_W:World)(i:Nat)(v:Value)(_X:World):Prop:=match i with
 |0=>v=.p T 3
 |1=>v=.l (some ⟨g2,0,none⟩) x.hn d2
 |2=>v=.i (h:Nat)
 |3=>v=.p T 3
 |4=>v=.l (some ⟨g2,0,none⟩) x.hn d2
 |5=>v=.i (h:Nat)
 |6=>v=.pointer (some ⟨g2,h*9,none⟩)
 |7=>v=.pointer (some ⟨g2,h*9,none⟩)
 |8=>v=.i z.t
 |9=>∃i:Int,v=.i i/\-1000001<=i/\i<=1000001
 |10=>v=.pointer (some ⟨g2,h*9,none⟩)
 |11=>v=.pointer (some ⟨g2,h*9,none⟩)
 |_=>True
theorem mt (hA:VR A R T o h)(hr:Rd W R ad nn cap p)(_hp:p<=600000)(H:SC W R T x g1 g2 a3 d1 d2 d3 o h y z ah bh ch eh)(hQ:∀(t:Nat->Value)(i:Int)(pz:Nat)(X0:World),-1000001<=i/\i<=1000001->AB (λq=>q=R) W X0->p<=pz->pz<=p+12->Rd X0 R ad nn cap pz->Q .normal ⟨C9 (Lu 280 12 t (OT A)),[]⟩ (X0.setCell ⟨g2,h*9,none⟩ (.i i))):Code.wp prog (rg Tryz.f44 48) Q ⟨A,[]⟩ W:=by
 refine I2 hA 280 12 λf mk t0 h0 h5 h6 h7 Dg hm=>?_;simp only[Dg]at hQ;simp only[C9,Lu,h0,h5,h6,h7,Nat.reduceLeDiff,Nat.reduceLT,Nat.reduceAdd,Nat.reduceSub,if_true,if_false,CA]at hm;clear Dg h0 h5 h6 h7;have Le:=hr.lt;refine E7 Zc 12 1 (λj=>match j with|10=>11|_=>12) mk t0 R ad nn cap p (vE R T x g1 g2 a3 d1 d2 d3 o h y z ah bh ch eh W) (λa X=>∃(t:Nat->Value)(i:Int)(pz:Nat)(X0:World),a=⟨mk t,[]⟩/\X=(X0.setCell ⟨g2,h*9,none⟩ (.i i))/\(-1000001<=i/\i<=1000001)/\AB (λq=>q=R) W X0/\p<=pz/\pz<=p+12/\Rd X0 R ad nn cap pz) Zc Zc Zc ?_ rfl hr ?_ ?_ ?_;all_goals subst hm
 .exact cO
 .intro i hi t X K p' hb CO Dj AW hg hK;rcases(ZV i Za)with rfl|rfl|rfl|rfl|rfl|rfl|rfl|rfl|rfl|rfl|rfl|rfl;.exact Di
  .exact Tr
  .exact Di
  .exact Di
  .exact dX
  .exact Di
  .exact eX
  .exact MO
  .exact G'
  .have AY:t 8=_:=hg 8 (AR rfl);have eq8b:=H.bz;have hw:=AQ (z.t+1) ⟨Za,Za⟩;have h:=hK (.i (z.t+1)) X p' A9 Za ⟨_,rfl,Za,Za⟩ (AB.refl _ _) AW;exact xI
  .exact iK
  .exact Yg
 .intro t X K p' hb CO Dj AW hg hK;have AY:t 11=_:=hg 11 Za;obtain⟨i,pL,y1,y2⟩:=hg 9 Za;have q:=(hb.cell (p:=⟨g2,h*9,none⟩) H.l2 H.n2).trans (H.c2 0 Zb);have q2:=(hb.frozen (p:=⟨g2,h*9,none⟩) H.l2 H.n2).trans (H.f2 _);simp only[cc,AV,Ac]at q;have h:=hK _ _ ⟨t,i,p',X,rfl,rfl,⟨y1,y2⟩,hb,CO,Za,AW⟩;exact xT
 .exact jU
def bw (R:Nat)(T:Nat)(x:Bk)(_g1 g2:Nat)(_a3:OA)(_d1 d2 _d3 _o h:Nat)(_y:Ob)(z:Ch)(_ah _bh:OA)(_ch _eh:Nat)(W:World)(i:Nat)(v:Value)(X:World):Prop:=match i with
 |0=>v=.p T 3
 |1=>v=.l (some ⟨g2,0,none⟩) x.hn d2
 |2=>v=.i (h:Nat)
 |3=>v=.p T 3
 |4=>v=.l (some ⟨g2,0,none⟩) x.hn d2
 |5=>v=.i (h:Nat)
 |6=>v=.pointer (some ⟨g2,h*9,none⟩)
 |7=>v=.pointer (some ⟨g2,h*9,none⟩)
 |8=>v=.i z.t
 |9=>v=.p T 1
 |10=>v=.i x.f
 |11=>∃i:Int,v=.i i/\-1000001<=i/\i<=1000001
 |12=>∃g:Nat,v=.l (some ⟨g,0,none⟩) 4 4/\W.1.size<=g/\g<X.1.size/\∀k,k<4->∃i:Int,X.cell? ⟨g,k,none⟩=some (.i i)/\-1000001<=i/\i<=1000001
 |13=>v=.p R 0
 |14=>∃k:Nat,k<4/\v=.i k
 |15=>∃(g k:Nat)(i:Int),v=.pointer (some ⟨g,k,none⟩)/\(W.1.size<=g/\g<X.1.size)/\X.cell? ⟨g,k,none⟩=some (.i i)/\True/\(-1000001<=i/\i<=1000001)
 |16=>∃i:Int,v=.i i/\-1000001<=i/\i<=1000001
 |17=>v=.pointer (some ⟨g2,h*9,none⟩)
 |18=>v=.pointer (some ⟨g2,h*9+2,none⟩)
 |19=>v=.pointer (some ⟨g2,h*9+5,none⟩)
 |_=>True
theorem nt (hA:VR A R T o h)(hr:Rd W R ad nn cap p)(hp:p<=600000)(H:SC W R T x g1 g2 a3 d1 d2 d3 o h y z ah bh ch eh)(hQ:∀(t:Nat->Value)(i:Int)(pz:Nat)(X0:World),-1000001<=i/\i<=1000001->AB (λq=>q=R) W X0->p<=pz->pz<=p+20->Rd X0 R ad nn cap pz->Q .normal ⟨C9 (Lu 294 20 t (OT A)),[]⟩ (X0.setCell ⟨g2,h*9+5,none⟩ (.i i))):Code.wp prog (rg Tryz.f44 50) Q ⟨A,[]⟩ W:=by
 refine I2 hA 294 20 λf mk t0 h0 h5 h6 h7 Dg hm=>?_;simp only[Dg]at hQ;simp only[C9,Lu,h0,h5,h6,h7,Nat.reduceLeDiff,Nat.reduceLT,Nat.reduceAdd,Nat.reduceSub,if_true,if_false,CA]at hm;clear Dg h0 h5 h6 h7;have Le:=hr.lt;refine E7 Zc 20 1 (λj=>match j with|17=>18|18=>19|_=>20) mk t0 R ad nn cap p (bw R T x g1 g2 a3 d1 d2 d3 o h y z ah bh ch eh W) (λa X=>∃(t:Nat->Value)(i:Int)(pz:Nat)(X0:World),a=⟨mk t,[]⟩/\X=(X0.setCell ⟨g2,h*9+5,none⟩ (.i i))/\(-1000001<=i/\i<=1000001)/\AB (λq=>q=R) W X0/\p<=pz/\pz<=p+20/\Rd X0 R ad nn cap pz) Zc Zc Zc ?_ rfl hr ?_ ?_ ?_;all_goals subst hm
 .intro i v X Z p' hi h hF Lb hR hX;iterate 20 (rcases i with _|i;.first
    |exact h
    |(obtain⟨g,e,y1,y2,y3⟩:=h;exact⟨g,e,y1,Aa y2 hF.size,λk hk=>by obtain⟨i,y4,y5⟩:=y3 k hk;exact⟨i,(hF.cell (p:=⟨g,k,none⟩) y2 (λq=>by have q:g=R:=q;omega)).trans y4,y5⟩⟩)
    |(obtain⟨g,k,i,e,y1,y2,y3,y4⟩:=h;exact⟨g,k,i,e,⟨y1.1,Aa y1.2 hF.size⟩,(hF.cell (p:=⟨g,k,none⟩) y1.2 (λq=>by have q:g=R:=q;omega)).trans y2,y3,y4⟩))
  omega
 .intro i hi t X K p' hb CO Dj AW hg hK;rcases(Ait i Za)with rfl|rfl|rfl|rfl|rfl|rfl|rfl|rfl|rfl|rfl|rfl|rfl|rfl|rfl|rfl|rfl|rfl|rfl|rfl|rfl;.exact Di
  .exact Tr
  .exact Di
  .exact Di
  .exact dX
  .exact Di
  .exact eX
  .exact MO
  .exact G'
  .exact Di
  .have AY:t 9=_:=hg 9 (AR rfl);exact ga
  .have AY:t 10=_:=hg 10 (AR rfl);have eq10b:=H.bf;exact u_
  .have AY:t 8=_:=hg 8 (AR rfl);have eq8b:=H.bz;obtain⟨i11,VX,Aiv,Aiu⟩:=hg 11 (AR rfl);have h:=hK (.l (some ⟨X.1.size,0,none⟩) 4 4) (X.alloc (.cells #[.i 0,.i z.t,.i 1,.i i11] 3)) p' A9 Za ⟨X.1.size,rfl,hb.size,Ze,λk hk=>by rw[Al X #[.i 0,.i z.t,.i 1,.i i11] 3 k];rcases(CS4 k Za)with rfl|rfl|rfl|rfl;all_goals exact⟨_,rfl,Za,Za⟩⟩ (Aj Do) (AW.below Do);refine Au rfl rfl ?_;clear hK hg;go_simp;simpa[AX,AY,VX]using h
  .exact Di
  .have AY:t 13=_:=hg 13 (AR rfl);exact O'
  .obtain⟨g,ZA,y1,y2,y3⟩:=hg 12 (AR rfl);obtain⟨k,hk,rS⟩:=hg 14 (AR rfl);obtain⟨i,y4,y5,y6⟩:=y3 k hk;have h:=hK (.pointer (some ⟨g,k,none⟩)) X p' A9 Za ⟨g,k,i,rfl,⟨y1,y2⟩,y4,trivial,y5,y6⟩ (AB.refl _ _) AW;refine Au rfl rfl ?_;clear hK hg;go_simp;rw[if_pos Za,BK];go_simp;simpa[AX,ZA,rS]using h
  .obtain⟨g,k,i,Ah0,y1,y2,y3,y4⟩:=hg 15 (AR rfl);have h:=hK (.i i) X p' A9 Za ⟨i,rfl,y4.1,y4.2⟩ (AB.refl _ _) AW;refine Au rfl rfl ?_;clear hK hg;go_simp;simpa[AX,Ah0]using h
  .exact iK
  .have AY:t 17=_:=hg 17 (AR rfl);exact MJ
  .have AY:t 18=_:=hg 18 (AR rfl);exact MJ
 .intro t X K p' hb CO Dj AW hg hK;have AY:t 19=_:=hg 19 Za;obtain⟨i,Ahd,y1,y2⟩:=hg 16 Za;have q:=(hb.cell (p:=⟨g2,h*9+5,none⟩) H.l2 H.n2).trans (H.c2 5 Zb);have q2:=(hb.frozen (p:=⟨g2,h*9+5,none⟩) H.l2 H.n2).trans (H.f2 _);simp only[cc,AV,Ac,Ad]at q;have h:=hK _ _ ⟨t,i,p',X,rfl,rfl,⟨y1,y2⟩,hb,CO,Za,AW⟩;have HK:=Ab h;clear hK hg h;refine Au rfl rfl ?_;go_simp;simpa[AY,Ahd]using HK.out
 .exact jU
def fi (R:Nat)(T:Nat)(x:Bk)(_g1 g2:Nat)(_a3:OA)(_d1 d2 _d3 _o h:Nat)(_y:Ob)(_z:Ch)(_ah _bh:OA)(_ch _eh:Nat)(W:World)(i:Nat)(v:Value)(X:World):Prop:=match i with
 |0=>v=.p T 3
 |1=>v=.l (some ⟨g2,0,none⟩) x.hn d2
 |2=>v=.i (h:Nat)
 |3=>∃g:Nat,v=.l (some ⟨g,0,none⟩) 3 3/\W.1.size<=g/\g<X.1.size/\∀k,k<3->∃s:ByteArray,X.cell? ⟨g,k,none⟩=some (.s s)/\s.size<=1000
 |4=>v=.p R 0
 |5=>∃k:Nat,k<3/\v=.i k
 |6=>∃(g k:Nat)(s:ByteArray),v=.pointer (some ⟨g,k,none⟩)/\(W.1.size<=g/\g<X.1.size)/\X.cell? ⟨g,k,none⟩=some (.s s)/\True/\s.size<=1000
 |7=>∃s:ByteArray,v=.s s/\s.size<=1000
 |8=>v=.pointer (some ⟨g2,h*9,none⟩)
 |9=>v=.pointer (some ⟨g2,h*9+2,none⟩)
 |10=>v=.pointer (some ⟨g2,h*9+3,none⟩)
 |_=>True
theorem pe (hA:VR A R T o h)(hr:Rd W R ad nn cap p)(hp:p<=600000)(H:SC W R T x g1 g2 a3 d1 d2 d3 o h y z ah bh ch eh)(hQ:∀(t:Nat->Value)(s:ByteArray)(pz:Nat)(X0:World),s.size<=1000->AB (λq=>q=R) W X0->p<=pz->pz<=p+11->Rd X0 R ad nn cap pz->Q .normal ⟨C9 (Lu 316 11 t (OT A)),[]⟩ (X0.setCell ⟨g2,h*9+3,none⟩ (.s s))):Code.wp prog (rg Tryz.f44 52) Q ⟨A,[]⟩ W:=by
 refine I2 hA 316 11 λf mk t0 h0 h5 h6 h7 Dg hm=>?_;simp only[Dg]at hQ;simp only[C9,Lu,h0,h5,h6,h7,Nat.reduceLeDiff,Nat.reduceLT,Nat.reduceAdd,Nat.reduceSub,if_true,if_false,CA]at hm;clear Dg h0 h5 h6 h7;have Le:=hr.lt;refine E7 Zc 11 1 (λj=>match j with|8=>9|9=>10|_=>11) mk t0 R ad nn cap p (fi R T x g1 g2 a3 d1 d2 d3 o h y z ah bh ch eh W) (λa X=>∃(t:Nat->Value)(s:ByteArray)(pz:Nat)(X0:World),a=⟨mk t,[]⟩/\X=(X0.setCell ⟨g2,h*9+3,none⟩ (.s s))/\(s.size<=1000)/\AB (λq=>q=R) W X0/\p<=pz/\pz<=p+11/\Rd X0 R ad nn cap pz) Zc Zc Zc ?_ rfl hr ?_ ?_ ?_;all_goals subst hm
 .intro i v X Z p' hi h hF Lb hR hX;iterate 11 (rcases i with _|i;.first
    |exact h
    |(obtain⟨g,e,y1,y2,y3⟩:=h;exact⟨g,e,y1,Aa y2 hF.size,λk hk=>by obtain⟨i,y4,y5⟩:=y3 k hk;exact⟨i,(hF.cell (p:=⟨g,k,none⟩) y2 (λq=>by have q:g=R:=q;omega)).trans y4,y5⟩⟩)
    |(obtain⟨g,k,s,e,y1,y2,y3,y4⟩:=h;exact⟨g,k,s,e,⟨y1.1,Aa y1.2 hF.size⟩,(hF.cell (p:=⟨g,k,none⟩) y1.2 (λq=>by have q:g=R:=q;omega)).trans y2,y3,y4⟩))
  omega
 .intro i hi t X K p' hb CO Dj AW hg hK;rcases(Acy i Za)with rfl|rfl|rfl|rfl|rfl|rfl|rfl|rfl|rfl|rfl|rfl;.exact Di
  .exact Tr
  .exact Di
  .have h:=hK (.l (some ⟨X.1.size,0,none⟩) 3 3) (X.alloc (.cells #[.s ⟨#[120]⟩,.s ⟨#[121]⟩,.s ⟨#[]⟩] 9)) p' A9 Za ⟨X.1.size,rfl,hb.size,Ze,λk hk=>by rw[Al X #[.s ⟨#[120]⟩,.s ⟨#[121]⟩,.s ⟨#[]⟩] 9 k];rcases(show k=0\/k=1\/k=2 by omega)with rfl|rfl|rfl;all_goals exact⟨_,rfl,Zb⟩⟩ (Aj Do) (AW.below Do);exact JC
  .exact Di
  .have AY:t 4=_:=hg 4 (AR rfl);exact Vb
  .exact Af8
  .exact xa
  .exact iK
  .have AY:t 8=_:=hg 8 (AR rfl);exact MJ
  .have AY:t 9=_:=hg 9 (AR rfl);exact MJ
 .intro t X K p' hb CO Dj AW hg hK;have AY:t 10=_:=hg 10 Za;obtain⟨s,Y8,y1⟩:=hg 7 Za;have q:=(hb.cell (p:=⟨g2,h*9+3,none⟩) H.l2 H.n2).trans (H.c2 3 Zb);have q2:=(hb.frozen (p:=⟨g2,h*9+3,none⟩) H.l2 H.n2).trans (H.f2 _);exact xg
 .exact yM
def yB (R:Nat)(T:Nat)(x:Bk)(g1 _g2:Nat)(_a3:OA)(d1 _d2 _d3 o _h:Nat)(_y:Ob)(_z:Ch)(_ah _bh:OA)(_ch _eh:Nat)(W:World)(i:Nat)(v:Value)(X:World):Prop:=match i with
 |0=>v=.p T 2
 |1=>v=.l (some ⟨g1,0,none⟩) x.on d1
 |2=>v=.i (o:Nat)
 |3=>∃g:Nat,v=.l (some ⟨g,0,none⟩) 3 3/\W.1.size<=g/\g<X.1.size/\∀k,k<3->∃s:ByteArray,X.cell? ⟨g,k,none⟩=some (.s s)/\s.size<=1000
 |4=>v=.p R 0
 |5=>∃k:Nat,k<3/\v=.i k
 |6=>∃(g k:Nat)(s:ByteArray),v=.pointer (some ⟨g,k,none⟩)/\(W.1.size<=g/\g<X.1.size)/\X.cell? ⟨g,k,none⟩=some (.s s)/\True/\s.size<=1000
 |7=>∃s:ByteArray,v=.s s/\s.size<=1000
 |8=>v=.pointer (some ⟨g1,o*7,none⟩)
 |9=>v=.pointer (some ⟨g1,o*7,none⟩)
 |_=>True
theorem qx (hA:VR A R T o h)(hr:Rd W R ad nn cap p)(hp:p<=600000)(H:SC W R T x g1 g2 a3 d1 d2 d3 o h y z ah bh ch eh)(hQ:∀(t:Nat->Value)(s:ByteArray)(pz:Nat)(X0:World),s.size<=1000->AB (λq=>q=R) W X0->p<=pz->pz<=p+10->Rd X0 R ad nn cap pz->Q .normal ⟨C9 (Lu 379 10 t (OT A)),[]⟩ (X0.setCell ⟨g1,o*7,none⟩ (.s s))):Code.wp prog (rg Tryz.f44 60) Q ⟨A,[]⟩ W:=by
 refine I2 hA 379 10 λf mk t0 h0 h5 h6 h7 Dg hm=>?_;simp only[Dg]at hQ;simp only[C9,Lu,h0,h5,h6,h7,Nat.reduceLeDiff,Nat.reduceLT,Nat.reduceAdd,Nat.reduceSub,if_true,if_false,CA]at hm;clear Dg h0 h5 h6 h7;have Le:=hr.lt;refine E7 Zc 10 1 (λj=>match j with|8=>9|_=>10) mk t0 R ad nn cap p (yB R T x g1 g2 a3 d1 d2 d3 o h y z ah bh ch eh W) (λa X=>∃(t:Nat->Value)(s:ByteArray)(pz:Nat)(X0:World),a=⟨mk t,[]⟩/\X=(X0.setCell ⟨g1,o*7,none⟩ (.s s))/\(s.size<=1000)/\AB (λq=>q=R) W X0/\p<=pz/\pz<=p+10/\Rd X0 R ad nn cap pz) Zc Zc Zc ?_ rfl hr ?_ ?_ ?_;all_goals subst hm
 .intro i v X Z p' hi h hF Lb hR hX;iterate 10 (rcases i with _|i;.first
    |exact h
    |(obtain⟨g,e,y1,y2,y3⟩:=h;exact⟨g,e,y1,Aa y2 hF.size,λk hk=>by obtain⟨i,y4,y5⟩:=y3 k hk;exact⟨i,(hF.cell (p:=⟨g,k,none⟩) y2 (λq=>by have q:g=R:=q;omega)).trans y4,y5⟩⟩)
    |(obtain⟨g,k,s,e,y1,y2,y3,y4⟩:=h;exact⟨g,k,s,e,⟨y1.1,Aa y1.2 hF.size⟩,(hF.cell (p:=⟨g,k,none⟩) y1.2 (λq=>by have q:g=R:=q;omega)).trans y2,y3,y4⟩))
  omega
 .intro i hi t X K p' hb CO Dj AW hg hK;rcases(Va i Za)with rfl|rfl|rfl|rfl|rfl|rfl|rfl|rfl|rfl|rfl;.exact Di
  .exact TJ
  .exact Di
  .have h:=hK (.l (some ⟨X.1.size,0,none⟩) 3 3) (X.alloc (.cells #[.s ⟨#[65]⟩,.s ⟨#[98,101,114,116,104]⟩,.s ⟨#[122,122,122]⟩] 9)) p' A9 Za ⟨X.1.size,rfl,hb.size,Ze,λk hk=>by rw[Al X #[.s ⟨#[65]⟩,.s ⟨#[98,101,114,116,104]⟩,.s ⟨#[122,122,122]⟩] 9 k];rcases(show k=0\/k=1\/k=2 by omega)with rfl|rfl|rfl;all_goals exact⟨_,rfl,Zb⟩⟩ (Aj Do) (AW.below Do);exact JC
  .exact Di
  .have AY:t 4=_:=hg 4 (AR rfl);exact Vb
  .exact Af8
  .exact xa
  .exact aD
  .have AY:t 8=_:=hg 8 (AR rfl);exact MJ
 .intro t X K p' hb CO Dj AW hg hK;have AY:t 9=_:=hg 9 Za;obtain⟨s,Y8,y1⟩:=hg 7 Za;have q:=(hb.cell (p:=⟨g1,o*7,none⟩) H.l1 H.n1).trans (H.c1 0 Zb);have q2:=(hb.frozen (p:=⟨g1,o*7,none⟩) H.l1 H.n1).trans (H.f1 _);exact xg
 .exact yM
def qq (_R:Nat)(T:Nat)(x:Bk)(_g1 g2:Nat)(_a3:OA)(_d1 d2 _d3 _o h:Nat)(_y:Ob)(z:Ch)(_ah _bh:OA)(_ch _eh:Nat)(_W:World)(i:Nat)(v:Value)(_X:World):Prop:=match i with
 |0=>v=.p T 3
 |1=>v=.l (some ⟨g2,0,none⟩) x.hn d2
 |2=>v=.i (h:Nat)
 |3=>v=.p T 3
 |4=>v=.l (some ⟨g2,0,none⟩) x.hn d2
 |5=>v=.i (h:Nat)
 |6=>v=.pointer (some ⟨g2,h*9,none⟩)
 |7=>v=.pointer (some ⟨g2,h*9+2,none⟩)
 |8=>v=.pointer (some ⟨g2,h*9+7,none⟩)
 |9=>v=.bool z.ob.e
 |10=>∃b:Bool,v=.bool b
 |11=>v=.pointer (some ⟨g2,h*9,none⟩)
 |12=>v=.pointer (some ⟨g2,h*9+2,none⟩)
 |13=>v=.pointer (some ⟨g2,h*9+7,none⟩)
 |_=>True
theorem Acq (hA:VR A R T o h)(hr:Rd W R ad nn cap p)(_hp:p<=600000)(H:SC W R T x g1 g2 a3 d1 d2 d3 o h y z ah bh ch eh)(hQ:∀(t:Nat->Value)(b:Bool)(pz:Nat)(X0:World),True->AB (λq=>q=R) W X0->p<=pz->pz<=p+14->Rd X0 R ad nn cap pz->Q .normal ⟨C9 (Lu 37 14 t (OT A)),[]⟩ (X0.setCell ⟨g2,h*9+7,none⟩ (.bool b))):Code.wp prog (rg Tryz.f44 7) Q ⟨A,[]⟩ W:=by
 refine I2 hA 37 14 λf mk t0 h0 h5 h6 h7 Dg hm=>?_;simp only[Dg]at hQ;simp only[C9,Lu,h0,h5,h6,h7,Nat.reduceLeDiff,Nat.reduceLT,Nat.reduceAdd,Nat.reduceSub,if_true,if_false,CA]at hm;clear Dg h0 h5 h6 h7;have Le:=hr.lt;refine E7 Zc 14 1 (λj=>match j with|11=>12|12=>13|_=>14) mk t0 R ad nn cap p (qq R T x g1 g2 a3 d1 d2 d3 o h y z ah bh ch eh W) (λa X=>∃(t:Nat->Value)(b:Bool)(pz:Nat)(X0:World),a=⟨mk t,[]⟩/\X=(X0.setCell ⟨g2,h*9+7,none⟩ (.bool b))/\(True)/\AB (λq=>q=R) W X0/\p<=pz/\pz<=p+14/\Rd X0 R ad nn cap pz) Zc Zc Zc ?_ rfl hr ?_ ?_ ?_;all_goals subst hm
 .intro i v X Z p' hi h hF Lb hR hX;iterate 14 (rcases i with _|i;.first|exact h)
  omega
 .intro i hi t X K p' hb CO Dj AW hg hK;rcases(Aiq i Za)with rfl|rfl|rfl|rfl|rfl|rfl|rfl|rfl|rfl|rfl|rfl|rfl|rfl|rfl;.exact Di
  .exact Tr
  .exact Di
  .exact Di
  .exact dX
  .exact Di
  .exact eX
  .exact MO
  .have AY:t 7=_:=hg 7 (AR rfl);exact MJ
  .have AY:t 8=_:=hg 8 (AR rfl);have q:=(hb.cell (p:=⟨g2,h*9+7,none⟩) H.l2 H.n2).trans (H.c2 7 Zb);exact ZG
  .have AY:t 9=_:=hg 9 (AR rfl);have h:=hK (.bool (!z.ob.e)) X p' A9 Za ⟨_,rfl⟩ (AB.refl _ _) AW;exact Sd
  .exact iK
  .have AY:t 11=_:=hg 11 (AR rfl);exact MJ
  .have AY:t 12=_:=hg 12 (AR rfl);exact MJ
 .intro t X K p' hb CO Dj AW hg hK;have AY:t 13=_:=hg 13 Za;obtain⟨b,gJ⟩:=hg 10 Za;have q:=(hb.cell (p:=⟨g2,h*9+7,none⟩) H.l2 H.n2).trans (H.c2 7 Zb);have q2:=(hb.frozen (p:=⟨g2,h*9+7,none⟩) H.l2 H.n2).trans (H.f2 _);simp only[cc,AV,Ac,Ad]at q;have h:=hK _ _ ⟨t,b,p',X,rfl,rfl,trivial,hb,CO,Za,AW⟩;exact wa
 .exact cv
end Go.Proofs.YtdknjmgdgnmhjaaGreat
