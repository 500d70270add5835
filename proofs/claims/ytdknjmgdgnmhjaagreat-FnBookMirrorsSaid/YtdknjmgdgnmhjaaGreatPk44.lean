import Derived.Test.YtdknjmgdgnmhjaaGreatPk41
set_option maxRecDepth 100000
set_option maxHeartbeats 4000000
namespace Go.Proofs.YtdknjmgdgnmhjaaGreat
open Go.RowKit Go.Proofs.Tryz
variable {A:Array Value}{R nn cap p T g1 g2 d1 d2 d3 o h ch eh:Nat}{ad a3 ah bh:OA}{x:Bk}{y:Ob}{z:Ch}{W:World}{Q:Exit→Act→World→Prop}
def vP (R:Nat)(T:Nat)(x:Bk)(_g1 _g2:Nat)(_a3:OA)(_d1 _d2 _d3 _o _h:Nat)(_y:Ob)(_z:Ch)(_ah _bh:OA)(_ch _eh:Nat)(W:World)(i:Nat)(v:Value)(X:World):Prop:=match i with
 |0=>v=.p T 1
 |1=>v=.i x.f
 |2=>∃i:Int,v=.i i/\-1000001<=i/\i<=1000001
 |3=>v=.p T 0
 |4=>v=.i x.v
 |5=>∃i:Int,v=.i i/\-1000001<=i/\i<=1000001
 |6=>∃g:Nat,v=.l (some ⟨g,0,none⟩) 3 3/\W.1.size<=g/\g<X.1.size/\∀k,k<3->∃i:Int,X.cell? ⟨g,k,none⟩=some (.i i)/\-1000001<=i/\i<=1000001
 |7=>v=.p R 0
 |8=>∃k:Nat,k<3/\v=.i k
 |9=>∃(g k:Nat)(i:Int),v=.pointer (some ⟨g,k,none⟩)/\(W.1.size<=g/\g<X.1.size)/\X.cell? ⟨g,k,none⟩=some (.i i)/\True/\(-1000001<=i/\i<=1000001)
 |10=>∃i:Int,v=.i i/\-1000001<=i/\i<=1000001
 |11=>v=.p T 1
 |_=>True
theorem ou (hA:VR A R T o h)(hr:Rd W R ad nn cap p)(hp:p<=600000)(H:SC W R T x g1 g2 a3 d1 d2 d3 o h y z ah bh ch eh)(hQ:∀(t:Nat->Value)(i:Int)(pz:Nat)(X0:World),-1000001<=i/\i<=1000001->AB (λq=>q=R) W X0->p<=pz->pz<=p+12->Rd X0 R ad nn cap pz->Q .normal ⟨C9 (Lu 144 12 t (OT A)),[]⟩ (X0.setCell ⟨T,1,none⟩ (.i i))):Code.wp prog (rg Tryz.f44 30) Q ⟨A,[]⟩ W:=by
 refine I2 hA 144 12 λf mk t0 h0 h5 h6 h7 Dg hm=>?_;simp only[Dg]at hQ;simp only[C9,Lu,h0,h5,h6,h7,Nat.reduceLeDiff,Nat.reduceLT,Nat.reduceAdd,Nat.reduceSub,if_true,if_false,CA]at hm;clear Dg h0 h5 h6 h7;have Le:=hr.lt;refine E7 Zc 12 1 (λj=>match j with|_=>12) mk t0 R ad nn cap p (vP R T x g1 g2 a3 d1 d2 d3 o h y z ah bh ch eh W) (λa X=>∃(t:Nat->Value)(i:Int)(pz:Nat)(X0:World),a=⟨mk t,[]⟩/\X=(X0.setCell ⟨T,1,none⟩ (.i i))/\(-1000001<=i/\i<=1000001)/\AB (λq=>q=R) W X0/\p<=pz/\pz<=p+12/\Rd X0 R ad nn cap pz) Zc Zc Zc ?_ rfl hr ?_ ?_ ?_;all_goals subst hm
 .intro i v X Z p' hi h hF Lb hR hX;iterate 12 (rcases i with _|i;.first
    |exact h
    |(obtain⟨g,e,y1,y2,y3⟩:=h;exact⟨g,e,y1,Aa y2 hF.size,λk hk=>by obtain⟨i,y4,y5⟩:=y3 k hk;exact⟨i,(hF.cell (p:=⟨g,k,none⟩) y2 (λq=>by have q:g=R:=q;omega)).trans y4,y5⟩⟩)
    |(obtain⟨g,k,i,e,y1,y2,y3,y4⟩:=h;exact⟨g,k,i,e,⟨y1.1,Aa y1.2 hF.size⟩,(hF.cell (p:=⟨g,k,none⟩) y1.2 (λq=>by have q:g=R:=q;omega)).trans y2,y3,y4⟩))
  omega
 .intro i hi t X K p' hb CO Dj AW hg hK;rcases(ZV i Za)with rfl|rfl|rfl|rfl|rfl|rfl|rfl|rfl|rfl|rfl|rfl|rfl;.exact Di
  .have AY:t 0=_:=hg 0 (AR rfl);exact ga
  .have AY:t 1=_:=hg 1 (AR rfl);have eq1b:=H.bf;exact u_
  .exact Di
  .have AY:t 3=_:=hg 3 (AR rfl);exact yq
  .have AY:t 4=_:=hg 4 (AR rfl);have eq4b:=H.bn;exact wM
  .obtain⟨i2,eq2,Ag9,Aan⟩:=hg 2 (AR rfl);obtain⟨i5,sO,Ajp,Ajk⟩:=hg 5 (AR rfl);have h:=hK (.l (some ⟨X.1.size,0,none⟩) 3 3) (X.alloc (.cells #[.i (-1),.i i2,.i i5] 3)) p' A9 Za ⟨X.1.size,rfl,hb.size,Ze,λk hk=>by rw[Al X #[.i (-1),.i i2,.i i5] 3 k];rcases(show k=0\/k=1\/k=2 by omega)with rfl|rfl|rfl;all_goals exact⟨_,rfl,Za,Za⟩⟩ (Aj Do) (AW.below Do);refine Au rfl rfl ?_;clear hK hg;go_simp;simpa[AX,eq2,sO]using h
  .exact Di
  .have AY:t 7=_:=hg 7 (AR rfl);exact Vb
  .obtain⟨g,kq,y1,y2,y3⟩:=hg 6 (AR rfl);obtain⟨k,hk,eq8⟩:=hg 8 (AR rfl);obtain⟨i,y4,y5,y6⟩:=y3 k hk;have h:=hK (.pointer (some ⟨g,k,none⟩)) X p' A9 Za ⟨g,k,i,rfl,⟨y1,y2⟩,y4,trivial,y5,y6⟩ (AB.refl _ _) AW;refine Au rfl rfl ?_;clear hK hg;go_simp;rw[if_pos Za,BK];go_simp;simpa[AX,kq,eq8]using h
  .obtain⟨g,k,i,pL,y1,y2,y3,y4⟩:=hg 9 (AR rfl);have h:=hK (.i i) X p' A9 Za ⟨i,rfl,y4.1,y4.2⟩ (AB.refl _ _) AW;refine Au rfl rfl ?_;clear hK hg;go_simp;simpa[AX,pL]using h
  .exact Di
 .intro t X K p' hb CO Dj AW hg hK;have AY:t 11=_:=hg 11 Za;obtain⟨i,gJ,y1,y2⟩:=hg 10 Za;have q:=(hb.cell (p:=⟨T,1,none⟩) H.lt H.ne).trans (H.row.cell 1 Zb);have q2:=(hb.frozen (p:=⟨T,1,none⟩) H.lt H.ne).trans (H.row.free _);simp only[AV,Ac,Ad]at q;have h:=hK _ _ ⟨t,i,p',X,rfl,rfl,⟨y1,y2⟩,hb,CO,Za,AW⟩;exact wa
 .exact jU
def dj (R:Nat)(T:Nat)(x:Bk)(g1 _g2:Nat)(_a3:OA)(d1 _d2 _d3 o _h:Nat)(y:Ob)(_z:Ch)(_ah _bh:OA)(_ch _eh:Nat)(_W:World)(i:Nat)(v:Value)(_X:World):Prop:=match i with
 |0=>v=.p T 2
 |1=>v=.l (some ⟨g1,0,none⟩) x.on d1
 |2=>v=.i (o:Nat)
 |3=>v=.p T 2
 |4=>v=.l (some ⟨g1,0,none⟩) x.on d1
 |5=>v=.i (o:Nat)
 |6=>v=.pointer (some ⟨g1,o*7,none⟩)
 |7=>v=.pointer (some ⟨g1,o*7+2,none⟩)
 |8=>v=.i y.t
 |9=>v=.p R 0
 |10=>∃k:Nat,k<3/\v=.i k
 |11=>∃i:Int,v=.i i/\-1000003<=i/\i<=1000003
 |12=>∃i:Int,v=.i i/\-1000004<=i/\i<=1000004
 |13=>v=.pointer (some ⟨g1,o*7,none⟩)
 |14=>v=.pointer (some ⟨g1,o*7+2,none⟩)
 |_=>True
theorem sq (hA:VR A R T o h)(hr:Rd W R ad nn cap p)(hp:p<=600000)(H:SC W R T x g1 g2 a3 d1 d2 d3 o h y z ah bh ch eh)(hQ:∀(t:Nat->Value)(i:Int)(pz:Nat)(X0:World),-1000004<=i/\i<=1000004->AB (λq=>q=R) W X0->p<=pz->pz<=p+15->Rd X0 R ad nn cap pz->Q .normal ⟨C9 (Lu 158 15 t (OT A)),[]⟩ (X0.setCell ⟨g1,o*7+2,none⟩ (.i i))):Code.wp prog (rg Tryz.f44 32) Q ⟨A,[]⟩ W:=by
 refine I2 hA 158 15 λf mk t0 h0 h5 h6 h7 Dg hm=>?_;simp only[Dg]at hQ;simp only[C9,Lu,h0,h5,h6,h7,Nat.reduceLeDiff,Nat.reduceLT,Nat.reduceAdd,Nat.reduceSub,if_true,if_false,CA]at hm;clear Dg h0 h5 h6 h7;have Le:=hr.lt;refine E7 Zc 15 1 (λj=>match j with|13=>14|_=>15) mk t0 R ad nn cap p (dj R T x g1 g2 a3 d1 d2 d3 o h y z ah bh ch eh W) (λa X=>∃(t:Nat->Value)(i:Int)(pz:Nat)(X0:World),a=⟨mk t,[]⟩/\X=(X0.setCell ⟨g1,o*7+2,none⟩ (.i i))/\(-1000004<=i/\i<=1000004)/\AB (λq=>q=R) W X0/\p<=pz/\pz<=p+15/\Rd X0 R ad nn cap pz) Zc Zc Zc ?_ rfl hr ?_ ?_ ?_;all_goals subst hm
 .intro i v X Z p' hi h hF Lb hR hX;iterate 15 (rcases i with _|i;.first|exact h)
  omega
 .intro i hi t X K p' hb CO Dj AW hg hK;rcases(dk i Za)with rfl|rfl|rfl|rfl|rfl|rfl|rfl|rfl|rfl|rfl|rfl|rfl|rfl|rfl|rfl;.exact Di
  .exact TJ
  .exact Di
  .exact Di
  .exact eD
  .exact Di
  .exact XQ
  .exact MO
  .exact M'
  .exact Di
  .have AY:t 9=_:=hg 9 (AR rfl);exact Vb
  .have AY:t 8=_:=hg 8 (AR rfl);have eq8b:=H.bv;obtain⟨ib,ibh,gJ⟩:=hg 10 (AR rfl);have hw:=AQ (y.t+(ib:Int)) ⟨Za,Za⟩;have h:=hK (.i (y.t+(ib:Int))) X p' A9 Za ⟨_,rfl,Za,Za⟩ (AB.refl _ _) AW;refine Au rfl rfl ?_;clear hK hg;go_simp;simpa[AX,AY,gJ,hw]using h
  .obtain⟨ia,VX,ia1,ia2⟩:=hg 11 (AR rfl);have hw:=AQ (ia-1) ⟨Za,Za⟩;have h:=hK (.i (ia-1)) X p' A9 Za ⟨_,rfl,Za,Za⟩ (AB.refl _ _) AW;refine Au rfl rfl ?_;clear hK hg;go_simp;simpa[AX,VX,hw]using h
  .exact aD
  .have AY:t 13=_:=hg 13 (AR rfl);exact MJ
 .intro t X K p' hb CO Dj AW hg hK;have AY:t 14=_:=hg 14 Za;obtain⟨i,ZA,y1,y2⟩:=hg 12 Za;have q:=(hb.cell (p:=⟨g1,o*7+2,none⟩) H.l1 H.n1).trans (H.c1 2 Zb);have q2:=(hb.frozen (p:=⟨g1,o*7+2,none⟩) H.l1 H.n1).trans (H.f1 _);simp only[oc,AV,Ac,Ad]at q;have h:=hK _ _ ⟨t,i,p',X,rfl,rfl,⟨y1,y2⟩,hb,CO,Za,AW⟩;have HK:=Ab h;clear hK hg h;refine Au rfl rfl ?_;go_simp;simpa[AY,ZA]using HK.out
 .exact jU
def gd (R:Nat)(T:Nat)(x:Bk)(g1 _g2:Nat)(_a3:OA)(d1 _d2 _d3 o _h:Nat)(y:Ob)(_z:Ch)(_ah _bh:OA)(_ch _eh:Nat)(W:World)(i:Nat)(v:Value)(X:World):Prop:=match i with
 |0=>v=.p T 2
 |1=>v=.l (some ⟨g1,0,none⟩) x.on d1
 |2=>v=.i (o:Nat)
 |3=>v=.p T 2
 |4=>v=.l (some ⟨g1,0,none⟩) x.on d1
 |5=>v=.i (o:Nat)
 |6=>v=.pointer (some ⟨g1,o*7,none⟩)
 |7=>v=.pointer (some ⟨g1,o*7+2,none⟩)
 |8=>v=.i y.t
 |9=>∃g:Nat,v=.l (some ⟨g,0,none⟩) 3 3/\W.1.size<=g/\g<X.1.size/\∀k,k<3->∃i:Int,X.cell? ⟨g,k,none⟩=some (.i i)/\-1000000<=i/\i<=1000000
 |10=>v=.p R 0
 |11=>∃k:Nat,k<3/\v=.i k
 |12=>∃(g k:Nat)(i:Int),v=.pointer (some ⟨g,k,none⟩)/\(W.1.size<=g/\g<X.1.size)/\X.cell? ⟨g,k,none⟩=some (.i i)/\True/\(-1000000<=i/\i<=1000000)
 |13=>∃i:Int,v=.i i/\-1000000<=i/\i<=1000000
 |14=>v=.pointer (some ⟨g1,o*7,none⟩)
 |15=>v=.pointer (some ⟨g1,o*7+3,none⟩)
 |_=>True
theorem qt (hA:VR A R T o h)(hr:Rd W R ad nn cap p)(hp:p<=600000)(H:SC W R T x g1 g2 a3 d1 d2 d3 o h y z ah bh ch eh)(hQ:∀(t:Nat->Value)(i:Int)(pz:Nat)(X0:World),-1000000<=i/\i<=1000000->AB (λq=>q=R) W X0->p<=pz->pz<=p+16->Rd X0 R ad nn cap pz->Q .normal ⟨C9 (Lu 175 16 t (OT A)),[]⟩ (X0.setCell ⟨g1,o*7+3,none⟩ (.i i))):Code.wp prog (rg Tryz.f44 34) Q ⟨A,[]⟩ W:=by
 refine I2 hA 175 16 λf mk t0 h0 h5 h6 h7 Dg hm=>?_;simp only[Dg]at hQ;simp only[C9,Lu,h0,h5,h6,h7,Nat.reduceLeDiff,Nat.reduceLT,Nat.reduceAdd,Nat.reduceSub,if_true,if_false,CA]at hm;clear Dg h0 h5 h6 h7;have Le:=hr.lt;refine E7 Zc 16 1 (λj=>match j with|14=>15|_=>16) mk t0 R ad nn cap p (gd R T x g1 g2 a3 d1 d2 d3 o h y z ah bh ch eh W) (λa X=>∃(t:Nat->Value)(i:Int)(pz:Nat)(X0:World),a=⟨mk t,[]⟩/\X=(X0.setCell ⟨g1,o*7+3,none⟩ (.i i))/\(-1000000<=i/\i<=1000000)/\AB (λq=>q=R) W X0/\p<=pz/\pz<=p+16/\Rd X0 R ad nn cap pz) Zc Zc Zc ?_ rfl hr ?_ ?_ ?_;all_goals subst hm
 .intro i v X Z p' hi h hF Lb hR hX;iterate 16 (rcases i with _|i;.first
    |exact h
    |(obtain⟨g,e,y1,y2,y3⟩:=h;exact⟨g,e,y1,Aa y2 hF.size,λk hk=>by obtain⟨i,y4,y5⟩:=y3 k hk;exact⟨i,(hF.cell (p:=⟨g,k,none⟩) y2 (λq=>by have q:g=R:=q;omega)).trans y4,y5⟩⟩)
    |(obtain⟨g,k,i,e,y1,y2,y3,y4⟩:=h;exact⟨g,k,i,e,⟨y1.1,Aa y1.2 hF.size⟩,(hF.cell (p:=⟨g,k,none⟩) y1.2 (λq=>by have q:g=R:=q;omega)).trans y2,y3,y4⟩))
  omega
 .intro i hi t X K p' hb CO Dj AW hg hK;rcases(Afm i Za)with rfl|rfl|rfl|rfl|rfl|rfl|rfl|rfl|rfl|rfl|rfl|rfl|rfl|rfl|rfl|rfl;.exact Di
  .exact TJ
  .exact Di
  .exact Di
  .exact eD
  .exact Di
  .exact XQ
  .exact MO
  .exact M'
  .have AY:t 8=_:=hg 8 (AR rfl);have eq8b:=H.bv;have h:=hK (.l (some ⟨X.1.size,0,none⟩) 3 3) (X.alloc (.cells #[.i 0,.i y.t,.i 1] 3)) p' A9 Za ⟨X.1.size,rfl,hb.size,Ze,λk hk=>by rw[Al X #[.i 0,.i y.t,.i 1] 3 k];rcases(show k=0\/k=1\/k=2 by omega)with rfl|rfl|rfl;all_goals exact⟨_,rfl,Za,Za⟩⟩ (Aj Do) (AW.below Do);exact Sd
  .exact Di
  .have AY:t 10=_:=hg 10 (AR rfl);exact Vb
  .obtain⟨g,pL,y1,y2,y3⟩:=hg 9 (AR rfl);obtain⟨k,hk,VX⟩:=hg 11 (AR rfl);obtain⟨i,y4,y5,y6⟩:=y3 k hk;have h:=hK (.pointer (some ⟨g,k,none⟩)) X p' A9 Za ⟨g,k,i,rfl,⟨y1,y2⟩,y4,trivial,y5,y6⟩ (AB.refl _ _) AW;exact r_
  .obtain⟨g,k,i,ZA,y1,y2,y3,y4⟩:=hg 12 (AR rfl);have h:=hK (.i i) X p' A9 Za ⟨i,rfl,y4.1,y4.2⟩ (AB.refl _ _) AW;refine Au rfl rfl ?_;clear hK hg;go_simp;simpa[AX,ZA]using h
  .exact aD
  .have AY:t 14=_:=hg 14 (AR rfl);exact MJ
 .intro t X K p' hb CO Dj AW hg hK;have AY:t 15=_:=hg 15 Za;obtain⟨i,sZ,y1,y2⟩:=hg 13 Za;have q:=(hb.cell (p:=⟨g1,o*7+3,none⟩) H.l1 H.n1).trans (H.c1 3 Zb);have q2:=(hb.frozen (p:=⟨g1,o*7+3,none⟩) H.l1 H.n1).trans (H.f1 _);simp only[oc,AV,Ac,Ad]at q;have h:=hK _ _ ⟨t,i,p',X,rfl,rfl,⟨y1,y2⟩,hb,CO,Za,AW⟩;have HK:=Ab h;clear hK hg h;refine Au rfl rfl ?_;go_simp;simpa[AY,sZ]using HK.out
 .exact jU
def xD (_R:Nat)(T:Nat)(x:Bk)(g1 _g2:Nat)(_a3:OA)(d1 _d2 _d3 o _h:Nat)(y:Ob)(_z:Ch)(_ah _bh:OA)(_ch _eh:Nat)(_W:World)(i:Nat)(v:Value)(_X:World):Prop:=match i with
 |0=>v=.p T 2
 |1=>v=.l (some ⟨g1,0,none⟩) x.on d1
 |2=>v=.i (o:Nat)
 |3=>v=.p T 2
 |4=>v=.l (some ⟨g1,0,none⟩) x.on d1
 |5=>v=.i (o:Nat)
 |6=>v=.pointer (some ⟨g1,o*7,none⟩)
 |7=>v=.pointer (some ⟨g1,o*7+4,none⟩)
 |8=>v=.s y.m
 |9=>∃s:ByteArray,v=.s s/\s.size<=1000
 |10=>v=.pointer (some ⟨g1,o*7,none⟩)
 |11=>v=.pointer (some ⟨g1,o*7+4,none⟩)
 |_=>True
theorem ma (hA:VR A R T o h)(hr:Rd W R ad nn cap p)(_hp:p<=600000)(H:SC W R T x g1 g2 a3 d1 d2 d3 o h y z ah bh ch eh)(hQ:∀(t:Nat->Value)(s:ByteArray)(pz:Nat)(X0:World),s.size<=1000->AB (λq=>q=R) W X0->p<=pz->pz<=p+12->Rd X0 R ad nn cap pz->Q .normal ⟨C9 (Lu 193 12 t (OT A)),[]⟩ (X0.setCell ⟨g1,o*7+4,none⟩ (.s s))):Code.wp prog (rg Tryz.f44 36) Q ⟨A,[]⟩ W:=by
 refine I2 hA 193 12 λf mk t0 h0 h5 h6 h7 Dg hm=>?_;simp only[Dg]at hQ;simp only[C9,Lu,h0,h5,h6,h7,Nat.reduceLeDiff,Nat.reduceLT,Nat.reduceAdd,Nat.reduceSub,if_true,if_false,CA]at hm;clear Dg h0 h5 h6 h7;have Le:=hr.lt;refine E7 Zc 12 1 (λj=>match j with|10=>11|_=>12) mk t0 R ad nn cap p (xD R T x g1 g2 a3 d1 d2 d3 o h y z ah bh ch eh W) (λa X=>∃(t:Nat->Value)(s:ByteArray)(pz:Nat)(X0:World),a=⟨mk t,[]⟩/\X=(X0.setCell ⟨g1,o*7+4,none⟩ (.s s))/\(s.size<=1000)/\AB (λq=>q=R) W X0/\p<=pz/\pz<=p+12/\Rd X0 R ad nn cap pz) Zc Zc Zc ?_ rfl hr ?_ ?_ ?_;all_goals subst hm
 .exact cO
 .intro i hi t X K p' hb CO Dj AW hg hK;rcases(ZV i Za)with rfl|rfl|rfl|rfl|rfl|rfl|rfl|rfl|rfl|rfl|rfl|rfl;.exact Di
  .exact TJ
  .exact Di
  .exact Di
  .exact eD
  .exact Di
  .exact XQ
  .exact MO
  .have AY:t 7=_:=hg 7 (AR rfl);have q:=(hb.cell (p:=⟨g1,o*7+4,none⟩) H.l1 H.n1).trans (H.c1 4 Zb);exact ZG
  .have AY:t 8=_:=hg 8 (AR rfl);have JP:=H.bt;have h:=hK (.s (y.m++⟨#[120]⟩)) X p' A9 Za ⟨_,rfl,by rw[Ft];show y.m.size+1<=1000;omega⟩ (AB.refl _ _) AW;refine Au rfl rfl ?_;clear hK hg;go_simp;rw[if_neg Zd,BK];go_simp;simpa[AX,AY]using h
  .exact aD
  .exact Yg
 .intro t X K p' hb CO Dj AW hg hK;have AY:t 11=_:=hg 11 Za;obtain⟨s,pL,y1⟩:=hg 9 Za;have q:=(hb.cell (p:=⟨g1,o*7+4,none⟩) H.l1 H.n1).trans (H.c1 4 Zb);have q2:=(hb.frozen (p:=⟨g1,o*7+4,none⟩) H.l1 H.n1).trans (H.f1 _);simp only[oc,AV,Ac,Ad]at q;have h:=hK _ _ ⟨t,s,p',X,rfl,rfl,y1,hb,CO,Za,AW⟩;exact xT
 .exact yM
end Go.Proofs.YtdknjmgdgnmhjaaGreat
