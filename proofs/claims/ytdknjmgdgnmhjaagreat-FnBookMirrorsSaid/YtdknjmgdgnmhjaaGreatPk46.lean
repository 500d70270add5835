import Derived.Test.YtdknjmgdgnmhjaaGreatPk43
import Derived.Test.YtdknjmgdgnmhjaaGreatPk42
import Derived.Test.YtdknjmgdgnmhjaaGreatPk44
import Derived.Test.YtdknjmgdgnmhjaaGreatPk45
set_option maxRecDepth 100000
set_option maxHeartbeats 4000000
namespace Go.Proofs.YtdknjmgdgnmhjaaGreat
open Go.RowKit Go.Proofs.Tryz
variable {A ad a3 ah bh ad':OA}{R nn cap p T g1 g2 d1 d2 d3 o h ch eh gA f p' p0 k g off C p2 m j cap' g':Nat}{x:Bk}{y:Ob}{z:Ch}{W X w Y:World}{Q:Exit→Act→World→Prop}{cA c d:Nat→Value}{P:Pl}{u:Value}{Pq:Nat→Prop}
def xK (R:Nat)(T:Nat)(x:Bk)(_g1 _g2:Nat)(a3:OA)(_d1 _d2 d3 _o _h:Nat)(_y:Ob)(_z:Ch)(_ah _bh:OA)(_ch _eh:Nat)(gA:Nat)(W:World)(i:Nat)(v:Value)(X:World):Prop:=match i with
 |0=>v=.p T 4
 |1=>v=.l a3 x.tn d3
 |2=>∃g:Nat,v=.l (some ⟨g,0,none⟩) 3 3/\W.1.size<=g/\g<X.1.size/\∀k,k<3->∃i:Int,X.cell? ⟨g,k,none⟩=some (.i i)/\-1000001<=i/\i<=1000001
 |3=>v=.p R 0
 |4=>∃k:Nat,k<3/\v=.i k
 |5=>∃(g k:Nat)(i:Int),v=.pointer (some ⟨g,k,none⟩)/\(W.1.size<=g/\g<X.1.size)/\X.cell? ⟨g,k,none⟩=some (.i i)/\True/\(-1000001<=i/\i<=1000001)
 |6=>∃i:Int,v=.i i/\-1000001<=i/\i<=1000001
 |7=>∃g:Nat,v=.l (some ⟨g,0,none⟩) 2 2/\W.1.size<=g/\g<X.1.size/\∀k,k<2->∃s:ByteArray,X.cell? ⟨g,k,none⟩=some (.s s)/\s.size<=1000
 |8=>v=.p R 0
 |9=>∃k:Nat,k<2/\v=.i k
 |10=>∃(g k:Nat)(s:ByteArray),v=.pointer (some ⟨g,k,none⟩)/\(W.1.size<=g/\g<X.1.size)/\X.cell? ⟨g,k,none⟩=some (.s s)/\True/\s.size<=1000
 |11=>∃s:ByteArray,v=.s s/\s.size<=1000
 |12=>v=.p R 0
 |13=>∃k:Nat,k<12/\v=.i k
 |14=>∃i:Int,v=.i i/\-13<=i/\i<=13
 |15=>v=.p T 0
 |16=>v=.i x.v
 |17=>v=.p T 0
 |18=>v=.i x.v
 |19=>∃i:Int,v=.i i/\-1000001<=i/\i<=1000001
 |20=>∃g:Nat,v=.l (some ⟨g,0,none⟩) 3 3/\W.1.size<=g/\g<X.1.size/\∀k,k<3->∃i:Int,X.cell? ⟨g,k,none⟩=some (.i i)/\-1000001<=i/\i<=1000001
 |21=>v=.p R 0
 |22=>∃k:Nat,k<3/\v=.i k
 |23=>∃(g k:Nat)(i:Int),v=.pointer (some ⟨g,k,none⟩)/\(W.1.size<=g/\g<X.1.size)/\X.cell? ⟨g,k,none⟩=some (.i i)/\True/\(-1000001<=i/\i<=1000001)
 |24=>∃i:Int,v=.i i/\-1000001<=i/\i<=1000001
 |25=>∃k:Ti,v=.agg (vT k)/\k.c.size<=1000/\k.print.size<=1000
 |26=>∃(g:Nat)(k:Ti),v=.l (some ⟨g,0,none⟩) 1 1/\W.1.size<=g/\g<X.1.size/\(∀f,f<5->X.cell? ⟨g,f,none⟩=some (AV (tv k) f))/\k.c.size<=1000/\k.print.size<=1000
 |27=>∃(k:Ti)(ad':OA)(cap' g':Nat),v=.l ad' (x.tn+1) cap'/\Rw X ad' g' (x.tn+1) cap' 5 (Cp (G5 x.ts) (x.tn*5) (AV (tv k)))/\((0<d3/\g'=gA)\/W.1.size<=g')/\k.c.size<=1000/\k.print.size<=1000
 |28=>v=.p T 4
 |_=>True
theorem pw{A:Array Value}(hA:VR A R T o h)(hr:Rd W R ad nn cap p)(hp:p<=600000)(H:SC W R T x g1 g2 a3 d1 d2 d3 o h y z ah bh ch eh)(HA:SpT W R T ad x gA a3 d3)(hQ:∀(t:Nat->Value)(k:Ti)(ad':OA)(cap' g' pz:Nat)(X0:World),(Rw X0 ad' g' (x.tn+1) cap' 5 (Cp (G5 x.ts) (x.tn*5) (AV (tv k)))/\((0<d3/\g'=gA)\/W.1.size<=g')/\k.c.size<=1000/\k.print.size<=1000)->AB (λq=>q=R\/(0<d3/\q=gA)) W X0->p<=pz->pz<=p+29->Rd X0 R ad nn cap pz->Q .normal ⟨C9 (Lu 348 29 t (OT A)),[]⟩ (X0.setCell ⟨T,4,none⟩ (.l ad' (x.tn+1) cap'))):Code.wp prog (rg Tryz.f44 58) Q ⟨A,[]⟩ W:=by
 refine I2 hA 348 29 λf mk t0 h0 h5 h6 h7 Dg hm=>?_;simp only[Dg]at hQ;simp only[C9,Lu,h0,h5,h6,h7,Nat.reduceLeDiff,Nat.reduceLT,Nat.reduceAdd,Nat.reduceSub,if_true,if_false,CA]at hm;clear Dg h0 h5 h6 h7;have Le:=hr.lt;have On:∀q,(λq=>q=R\/(0<d3/\q=gA)) q->q<W.1.size:=λq e=>by exact xC
 refine JJ Zc 29 1 27 (λj=>match j with|_=>29) (λ_=>0) (λ_=>false) (λq=>q=R\/(0<d3/\q=gA)) mk t0 R ad nn cap p (xK R T x g1 g2 a3 d1 d2 d3 o h y z ah bh ch eh gA W) (λa X=>∃(t:Nat->Value)(k:Ti)(ad':OA)(cap' g' pz:Nat)(X0:World),a=⟨mk t,[]⟩/\X=(X0.setCell ⟨T,4,none⟩ (.l ad' (x.tn+1) cap'))/\(Rw X0 ad' g' (x.tn+1) cap' 5 (Cp (G5 x.ts) (x.tn*5) (AV (tv k)))/\((0<d3/\g'=gA)\/W.1.size<=g')/\k.c.size<=1000/\k.print.size<=1000)/\AB (λq=>q=R\/(0<d3/\q=gA)) W X0/\p<=pz/\pz<=p+29/\Rd X0 R ad nn cap pz) Zc Zc Zc Zc ?_ ?_ (AA rfl) rfl hr ?_ ?_ ?_ ?_;all_goals subst hm
 .intro i v X Z p' hi Nu h hF Lb hR hX;rcases(show i=0\/i=1\/i=2\/i=3\/i=4\/i=5\/i=6\/i=7\/i=8\/i=9\/i=10\/i=11\/i=12\/i=13\/i=14\/i=15\/i=16\/i=17\/i=18\/i=19\/i=20\/i=21\/i=22\/i=23\/i=24\/i=25\/i=26\/i=27\/i=28 by omega)with rfl|rfl|rfl|rfl|rfl|rfl|rfl|rfl|rfl|rfl|rfl|rfl|rfl|rfl|rfl|rfl|rfl|rfl|rfl|rfl|rfl|rfl|rfl|rfl|rfl|rfl|rfl|rfl|rfl;.exact h
  .exact h
  .exact Aaw
  .exact h
  .exact h
  .exact B_
  .exact h
  .exact Aaw
  .exact h
  .exact h
  .obtain⟨g,k,s,e,y1,y2,y3,y4⟩:=h;exact⟨g,k,s,e,⟨y1.1,Aa y1.2 hF.size⟩,(hF.cell (p:=⟨g,k,none⟩) y1.2 (λq=>by have:=On g q;omega)).trans y2,y3,y4⟩
  .exact h
  .exact h
  .exact h
  .exact h
  .exact h
  .exact h
  .exact h
  .exact h
  .exact h
  .exact Aaw
  .exact h
  .exact h
  .exact B_
  .exact h
  .exact h
  .obtain⟨g,k,e,y1,y2,y3,y4⟩:=h;exact⟨g,k,e,y1,Aa y2 hF.size,λf hf=>(hF.cell (p:=⟨g,f,none⟩) y2 (λq=>by have:=On g q;omega)).trans (y3 f hf),y4⟩
  .exact absurd rfl Nu
  .exact h
 .intro i v X Z p' hi h hF Lb hR hX;rcases(show i=0\/i=1\/i=2\/i=3\/i=4\/i=5\/i=6\/i=7\/i=8\/i=9\/i=10\/i=11\/i=12\/i=13\/i=14\/i=15\/i=16\/i=17\/i=18\/i=19\/i=20\/i=21\/i=22\/i=23\/i=24\/i=25\/i=26\/i=27\/i=28 by omega)with rfl|rfl|rfl|rfl|rfl|rfl|rfl|rfl|rfl|rfl|rfl|rfl|rfl|rfl|rfl|rfl|rfl|rfl|rfl|rfl|rfl|rfl|rfl|rfl|rfl|rfl|rfl|rfl|rfl;.exact h
  .exact h
  .exact Ach
  .exact h
  .exact h
  .exact H'
  .exact h
  .exact Ach
  .exact h
  .exact h
  .obtain⟨g,k,s,e,y1,y2,y3,y4⟩:=h;exact⟨g,k,s,e,⟨y1.1,Aa y1.2 hF.size⟩,(hF.cell (p:=⟨g,k,none⟩) y1.2 (λq=>by have q:g=R:=q;omega)).trans y2,y3,y4⟩
  .exact h
  .exact h
  .exact h
  .exact h
  .exact h
  .exact h
  .exact h
  .exact h
  .exact h
  .exact Ach
  .exact h
  .exact h
  .exact H'
  .exact h
  .exact h
  .obtain⟨g,k,e,y1,y2,y3,y4⟩:=h;exact⟨g,k,e,y1,Aa y2 hF.size,λf hf=>(hF.cell (p:=⟨g,f,none⟩) y2 (λq=>by have q:g=R:=q;omega)).trans (y3 f hf),y4⟩
  .obtain⟨k,ad',cap',g',e,y1,y2,y3⟩:=h;exact⟨k,ad',cap',g',e,y1.fr hF (λh0 q=>by have q:g'=R:=q;rcases y2 with y2|y2;exact HA.ne (y2.2▸q);omega),y2,y3⟩
  .exact h
 .intro i hi Nu t X K p' hb QP CO Dj AW hg hK;rcases(show i=0\/i=1\/i=2\/i=3\/i=4\/i=5\/i=6\/i=7\/i=8\/i=9\/i=10\/i=11\/i=12\/i=13\/i=14\/i=15\/i=16\/i=17\/i=18\/i=19\/i=20\/i=21\/i=22\/i=23\/i=24\/i=25\/i=26\/i=27\/i=28 by omega)with rfl|rfl|rfl|rfl|rfl|rfl|rfl|rfl|rfl|rfl|rfl|rfl|rfl|rfl|rfl|rfl|rfl|rfl|rfl|rfl|rfl|rfl|rfl|rfl|rfl|rfl|rfl|rfl|rfl;.exact Di
  .exact V_
  .have h:=hK (.l (some ⟨X.1.size,0,none⟩) 3 3) (X.alloc (.cells #[.i 0,.i 1,.i 1000001] 3)) p' A9 Za ⟨X.1.size,rfl,hb.size,Ze,λk hk=>by rw[Al X #[.i 0,.i 1,.i 1000001] 3 k];rcases(show k=0\/k=1\/k=2 by omega)with rfl|rfl|rfl;all_goals exact⟨_,rfl,Za,Za⟩⟩ (Aj Do) (AW.below Do);exact JC
  .exact Di
  .have AY:t 3=_:=hg 3 (AR rfl);exact Vb
  .obtain⟨g,eq2,y1,y2,y3⟩:=hg 2 (AR rfl);obtain⟨k,hk,eq4⟩:=hg 4 (AR rfl);obtain⟨i,y4,y5,y6⟩:=y3 k hk;have h:=hK (.pointer (some ⟨g,k,none⟩)) X p' A9 Za ⟨g,k,i,rfl,⟨y1,y2⟩,y4,trivial,y5,y6⟩ (AB.refl _ _) AW;exact ze
  .obtain⟨g,k,i,sO,y1,y2,y3,y4⟩:=hg 5 (AR rfl);have h:=hK (.i i) X p' A9 Za ⟨i,rfl,y4.1,y4.2⟩ (AB.refl _ _) AW;refine Au rfl rfl ?_;clear hK hg;go_simp;simpa[AX,sO]using h
  .have h:=hK (.l (some ⟨X.1.size,0,none⟩) 2 2) (X.alloc (.cells #[.s ⟨#[49,50,51,52,53,54,55,56]⟩,.s ⟨#[49]⟩] 9)) p' A9 Za ⟨X.1.size,rfl,hb.size,Ze,λk hk=>by rw[Al X #[.s ⟨#[49,50,51,52,53,54,55,56]⟩,.s ⟨#[49]⟩] 9 k];rcases(show k=0\/k=1 by omega)with rfl|rfl;all_goals exact⟨_,rfl,Zb⟩⟩ (Aj Do) (AW.below Do);exact JC
  .exact Di
  .have AY:t 8=_:=hg 8 (AR rfl);exact sj
  .obtain⟨g,Y8,y1,y2,y3⟩:=hg 7 (AR rfl);obtain⟨k,hk,pL⟩:=hg 9 (AR rfl);obtain⟨s,y4,y5⟩:=y3 k hk;have h:=hK (.pointer (some ⟨g,k,none⟩)) X p' A9 Za ⟨g,k,s,rfl,⟨y1,y2⟩,y4,trivial,y5⟩ (AB.refl _ _) AW;refine Au rfl rfl ?_;clear hK hg;go_simp;rw[if_pos Za,BK];go_simp;simpa[AX,Y8,pL]using h
  .obtain⟨g,k,s,gJ,y1,y2,y3,y4⟩:=hg 10 (AR rfl);have h:=hK (.s s) X p' A9 Za ⟨s,rfl,y4⟩ (AB.refl _ _) AW;refine Au rfl rfl ?_;clear hK hg;go_simp;simpa[AX,gJ]using h
  .exact Di
  .have AY:t 12=_:=hg 12 (AR rfl);refine Au rfl rfl ?_;have HK:=Ab hK;have HR:=Ab AW;clear hK hg AW;go_simp;go_at_call 16;refine(Bt R ad nn cap p' 12 X HR Za Zb Zb).mono ?_;exact nd
  .obtain⟨ia,iah,sZ⟩:=hg 13 (AR rfl);have hw:=AQ ((ia:Int)-1) ⟨Za,Za⟩;have h:=hK (.i ((ia:Int)-1)) X p' A9 Za ⟨_,rfl,Za,Za⟩ (AB.refl _ _) AW;refine Au rfl rfl ?_;clear hK hg;go_simp;simpa[AX,sZ,hw]using h
  .exact Di
  .have AY:t 15=_:=hg 15 (AR rfl);exact wd
  .exact Di
  .have AY:t 17=_:=hg 17 (AR rfl);exact wd
  .have AY:t 18=_:=hg 18 (AR rfl);have eq18b:=H.bn;exact wM
  .have AY:t 16=_:=hg 16 (AR rfl);have eq16b:=H.bn;obtain⟨i19,Agu,Aiw,Aix⟩:=hg 19 (AR rfl);have h:=hK (.l (some ⟨X.1.size,0,none⟩) 3 3) (X.alloc (.cells #[.i 0,.i x.v,.i i19] 3)) p' A9 Za ⟨X.1.size,rfl,hb.size,Ze,λk hk=>by rw[Al X #[.i 0,.i x.v,.i i19] 3 k];rcases(show k=0\/k=1\/k=2 by omega)with rfl|rfl|rfl;all_goals exact⟨_,rfl,Za,Za⟩⟩ (Aj Do) (AW.below Do);refine Au rfl rfl ?_;clear hK hg;go_simp;simpa[AX,AY,Agu]using h
  .exact Di
  .have AY:t 21=_:=hg 21 (AR rfl);exact Vb
  .obtain⟨g,Ah1,y1,y2,y3⟩:=hg 20 (AR rfl);obtain⟨k,hk,Aan⟩:=hg 22 (AR rfl);obtain⟨i,y4,y5,y6⟩:=y3 k hk;have h:=hK (.pointer (some ⟨g,k,none⟩)) X p' A9 Za ⟨g,k,i,rfl,⟨y1,y2⟩,y4,trivial,y5,y6⟩ (AB.refl _ _) AW;refine Au rfl rfl ?_;clear hK hg;go_simp;rw[if_pos Za,BK];go_simp;simpa[AX,Ah1,Aan]using h
  .obtain⟨g,k,i,Ahq,y1,y2,y3,y4⟩:=hg 23 (AR rfl);have h:=hK (.i i) X p' A9 Za ⟨i,rfl,y4.1,y4.2⟩ (AB.refl _ _) AW;refine Au rfl rfl ?_;clear hK hg;go_simp;simpa[AX,Ahq]using h
  .obtain⟨i6,kq,_,_⟩:=hg 6 (AR rfl);obtain⟨s11,VX,z11⟩:=hg 11 (AR rfl);obtain⟨i14,rS,_,_⟩:=hg 14 (AR rfl);obtain⟨i24,Ag0,_,_⟩:=hg 24 (AR rfl);have h:=hK (.agg #[.s ⟨#[122,111,101]⟩,.i i6,.s s11,.i i14,.i i24]) X p' A9 Za ⟨⟨⟨#[122,111,101]⟩,i6,s11,i14,i24⟩,rfl,(by show(⟨#[122,111,101]⟩:ByteArray).size<=1000;decide),z11⟩ (AB.refl _ _) AW;refine Au rfl rfl ?_;clear hK hg;go_simp;simpa[AX,kq,VX,rS,Ag0]using h
  .obtain⟨k,Ahr,z1,z2⟩:=hg 25 (AR rfl);have h:=hK (.l (some ⟨X.1.size,0,none⟩) 1 1) (X.alloc (.cells (vT k) 132)) p' A9 Za ⟨X.1.size,k,rfl,hb.size,Ze,λf hf=>(AE.new (w:=X) (l:=tv k) (t:=132) Dx).cell f hf,z1,z2⟩ (Aj Do) (AW.below Do);refine Au rfl rfl ?_;clear hK hg;go_simp;simpa[AX,Ahr]using h
  .exact absurd rfl Nu
  .exact Di
 .intro ll t X K p' hb CO Dj AW hg hK;obtain⟨g,k,Ahj,y1,y2,y3,y4⟩:=hg 26 (AR rfl);have AY:t 1=_:=hg 1 (AR rfl);have RW:=HA.rw.fr hb (λh0=>HA.ne);obtain⟨ad',cap',g',Y,CZ,FW,Pg,hg'⟩:=It (P:=prog) X 34 34 132 5 56 _ underlying34 Gn Za Zc a3 gA x.tn d3 (G5 x.ts) RW (λj _=>Jl _ _) g (g+1) (some ⟨g,0,none⟩) 1 1 (AV (tv k)) ⟨λj hj=>⟨g,0,rfl,AG _,BE _,by rw[A6];exact y3 j hj⟩,λj hj=>fg k j hj⟩ Za (by have:=HA.tn;omega) (by have:=HA.tn;omega);have uR:AB (λq=>q=R\/(0<d3/\q=gA)) X Y:=Pg.mono (λq e=>Az e);have h:=hK (.l ad' (x.tn+1) cap') Y p' A9 Za ⟨k,ad',cap',g',rfl,FW,hg'.imp id (AJ hb.size),y4.1,y4.2⟩ uR (AW.app Pg HA.ne HA.bt);refine Au rfl rfl ?_;clear hK hg;refine DG (.tmp 349) (.tmp 374) 34 34 rfl _ _ _ _ Zba (by simpa[Act.eval,go_sem]using Ahj) CZ ?_;exact Rk
 .intro t X K p' hb CO Dj AW hg hK;have AY:t 28=_:=hg 28 Za;obtain⟨k,ad',cap',g',eqm,FW,hg',z1,z2⟩:=hg 27 Za;have q:=(hb.cell (p:=⟨T,4,none⟩) H.lt HA.nT).trans (H.row.cell 4 Zb);have q2:=(hb.frozen (p:=⟨T,4,none⟩) H.lt HA.nT).trans (H.row.free _);simp only[AV,Ac,Ad]at q;exact d'
 .exact vz
def fe (_R:Nat)(T:Nat)(x:Bk)(g1 _g2:Nat)(_a3:OA)(d1 _d2 _d3 o _h:Nat)(y:Ob)(_z:Ch)(ah _bh:OA)(ch _eh:Nat)(cA:Nat->Value)(W:World)(i:Nat)(v:Value)(X:World):Prop:=match i with
 |0=>v=.p T 2
 |1=>v=.l (some ⟨g1,0,none⟩) x.on d1
 |2=>v=.p T 2
 |3=>v=.l (some ⟨g1,0,none⟩) x.on d1
 |4=>v=.i (o:Nat)
 |5=>v=.pointer (some ⟨g1,o*7,none⟩)
 |6=>v=.agg (vO y ah ch)
 |7=>∃g:Nat,v=.l (some ⟨g,0,none⟩) 1 1/\W.1.size<=g/\g<X.1.size/\∀f,f<7->X.cell? ⟨g,f,none⟩=some (AV (oc y ah ch) f)
 |8=>∃(ad':OA)(cap' g':Nat),v=.l ad' (x.on+1) cap'/\Rw X ad' g' (x.on+1) cap' 7 (Cp cA (x.on*7) (AV (oc y ah ch)))/\((0<d1/\g'=g1)\/W.1.size<=g')
 |9=>v=.p T 2
 |_=>True
theorem lz{A:Array Value}(hA:VR A R T o h)(hr:Rd W R ad nn cap p)(_hp:p<=600000)(H:SC W R T x g1 g2 a3 d1 d2 d3 o h y z ah bh ch eh)(HA:SpO W R T ad x g1 d1 cA)(hQ:∀(t:Nat->Value)(ad':OA)(cap' g' pz:Nat)(X0:World),(Rw X0 ad' g' (x.on+1) cap' 7 (Cp cA (x.on*7) (AV (oc y ah ch)))/\((0<d1/\g'=g1)\/W.1.size<=g'))->AB (λq=>q=R\/(0<d1/\q=g1)) W X0->p<=pz->pz<=p+10->Rd X0 R ad nn cap pz->Q .normal ⟨C9 (Lu 241 10 t (OT A)),[]⟩ (X0.setCell ⟨T,2,none⟩ (.l ad' (x.on+1) cap'))):Code.wp prog (rg Tryz.f44 42) Q ⟨A,[]⟩ W:=by
 refine I2 hA 241 10 λf mk t0 h0 h5 h6 h7 Dg hm=>?_;simp only[Dg]at hQ;simp only[C9,Lu,h0,h5,h6,h7,Nat.reduceLeDiff,Nat.reduceLT,Nat.reduceAdd,Nat.reduceSub,if_true,if_false,CA]at hm;clear Dg h0 h5 h6 h7;have Le:=hr.lt;have On:∀q,(λq=>q=R\/(0<d1/\q=g1)) q->q<W.1.size:=λq e=>by
  rcases e with e|e;.omega
  .have:=H.l1;omega
 refine JJ Zc 10 1 8 (λj=>match j with|_=>10) (λj=>match j with|0=>1|1=>8|2=>3|3=>5|4=>5|5=>6|6=>7|7=>8|_=>0) (λj=>decide (j<8)) (λq=>q=R\/(0<d1/\q=g1)) mk t0 R ad nn cap p (fe R T x g1 g2 a3 d1 d2 d3 o h y z ah bh ch eh cA W) (λa X=>∃(t:Nat->Value)(ad':OA)(cap' g' pz:Nat)(X0:World),a=⟨mk t,[]⟩/\X=(X0.setCell ⟨T,2,none⟩ (.l ad' (x.on+1) cap'))/\(Rw X0 ad' g' (x.on+1) cap' 7 (Cp cA (x.on*7) (AV (oc y ah ch)))/\((0<d1/\g'=g1)\/W.1.size<=g'))/\AB (λq=>q=R\/(0<d1/\q=g1)) W X0/\p<=pz/\pz<=p+10/\Rd X0 R ad nn cap pz) Zc Zc Zc Zc ?_ ?_ (AA rfl) rfl hr ?_ ?_ ?_ ?_;all_goals subst hm
 .intro i v X Z p' hi Nu h hF Lb hR hX;iterate 10 (rcases i with _|i;.first|exact h|(obtain⟨g,e,y1,y2,y3⟩:=h;exact⟨g,e,y1,Aa y2 hF.size,λf hf=>(hF.cell (p:=⟨g,f,none⟩) y2 (λq=>by have:=On g q;omega)).trans (y3 f hf)⟩)|exact absurd rfl Nu)
  omega
 .intro i v X Z p' hi h hF Lb hR hX;iterate 10 (rcases i with _|i;.first|exact h|(obtain⟨g,e,y1,y2,y3⟩:=h;exact⟨g,e,y1,Aa y2 hF.size,λf hf=>(hF.cell (p:=⟨g,f,none⟩) y2 (λq=>by have q:g=R:=q;omega)).trans (y3 f hf)⟩)|(obtain⟨ad',cap',g',e,y1,y2⟩:=h;exact⟨ad',cap',g',e,y1.fr hF (λh0 q=>by have q:g'=R:=q;rcases y2 with y2|y2;exact H.n1 (y2.2▸q);omega),y2⟩))
  omega
 .intro i hi Nu t X K p' hb QP CO Dj AW hg hK;rcases(Va i Za)with rfl|rfl|rfl|rfl|rfl|rfl|rfl|rfl|rfl|rfl;.exact Di
  .have AY:t 0=_:=hg 0 (AR rfl);exact iL
  .exact Di
  .have AY:t 2=_:=hg 2 (AR rfl);exact iL
  .exact Di
  .have AY:t 3=_:=hg 3 (AR rfl);have Ff:t 4=_:=hg 4 (AR rfl);have hlt:=H.ho;exact ci
  .have AY:t 5=_:=hg 5 (AR rfl);have q0:=((QP KV).cell (p:=⟨g1,o*7+0,none⟩) H.l1 H.n1).trans (H.c1 0 Zb);have q1:=((QP KV).cell (p:=⟨g1,o*7+1,none⟩) H.l1 H.n1).trans (H.c1 1 Zb);have q2:=((QP KV).cell (p:=⟨g1,o*7+2,none⟩) H.l1 H.n1).trans (H.c1 2 Zb);have q3:=((QP KV).cell (p:=⟨g1,o*7+3,none⟩) H.l1 H.n1).trans (H.c1 3 Zb);have q4:=((QP KV).cell (p:=⟨g1,o*7+4,none⟩) H.l1 H.n1).trans (H.c1 4 Zb);have q5:=((QP KV).cell (p:=⟨g1,o*7+5,none⟩) H.l1 H.n1).trans (H.c1 5 Zb);have q6:=((QP KV).cell (p:=⟨g1,o*7+6,none⟩) H.l1 H.n1).trans (H.c1 6 Zb);exact zd
  .have AY:t 6=_:=hg 6 (AR rfl);have h:=hK (.l (some ⟨X.1.size,0,none⟩) 1 1) (X.alloc (.cells (vO y ah ch) 52)) p' A9 Za ⟨X.1.size,rfl,hb.size,Ze,λf hf=>(AE.new (w:=X) (l:=oc y ah ch) (t:=52) Dx).cell f hf⟩ (Aj Do) (AW.below Do);exact Sd
  .exact absurd rfl Nu
  .exact Di
 .intro ll t X K p' hb CO Dj AW hg hK;obtain⟨g,Y8,y1,y2,y3⟩:=hg 7 (AR rfl);have AY:t 1=_:=hg 1 (AR rfl);have RW:=HA.rw.fr hb (λh0=>H.n1);obtain⟨ad',cap',g',Y,CZ,FW,Pg,hg'⟩:=It (P:=prog) X 23 23 52 7 96 _ underlying23 Eu Za Zc (some ⟨g1,0,none⟩) g1 x.on d1 cA RW HA.one g (g+1) (some ⟨g,0,none⟩) 1 1 (AV (oc y ah ch)) ⟨λj hj=>⟨g,0,rfl,AG _,BE _,by rw[A6];exact y3 j hj⟩,λj hj=>ar _ _ _ j hj⟩ Za (by have:=HA.on;omega) (by have:=HA.on;omega);have uR:AB (λq=>q=R\/(0<d1/\q=g1)) X Y:=Pg.mono (λq e=>Az e);have h:=hK (.l ad' (x.on+1) cap') Y p' A9 Za ⟨ad',cap',g',rfl,FW,hg'.imp id (AJ hb.size)⟩ uR (AW.app Pg H.n1 HA.bt);refine Au rfl rfl ?_;clear hK hg;refine DG (.tmp 242) (.tmp 248) 23 23 rfl _ _ _ _ Zba (by simpa[Act.eval,go_sem]using Y8) CZ ?_;exact Rk
 .intro t X K p' hb CO Dj AW hg hK;have AY:t 9=_:=hg 9 Za;obtain⟨ad',cap',g',eqm,FW,hg'⟩:=hg 8 Za;have q:=(hb.cell (p:=⟨T,2,none⟩) H.lt HA.nT).trans (H.row.cell 2 Zb);have q2:=(hb.frozen (p:=⟨T,2,none⟩) H.lt HA.nT).trans (H.row.free _);simp only[AV,Ac,Ad]at q;have h:=hK _ _ ⟨t,ad',cap',g',p',X,rfl,rfl,⟨FW,hg'⟩,hb,CO,Za,AW⟩;exact fO
 .rintro a X ⟨t,ad',cap',g',pz,X0,rfl,rfl,z2,z3,z4,z5,z6⟩;exact hQ t ad' cap' g' pz X0 z2 z3 z4 z5 z6
theorem Jv.setO{p:Pl}(h:Jv X x p)(ho:o<x.on)(hf:f<7)(u:Value)(y:Ob)(en:y.hn=(x.os o).hn)(es:y.hs=(x.os o).hs)(hv:∀k,k<7->AV (oc y (p.A1 o) (p.C1 o)) k=if k=f then u else AV (oc (x.os o) (p.A1 o) (p.C1 o)) k):Jv (X.setCell ⟨p.g1,o*7+f,none⟩ u) {x with os:=Cl x.os o y} p:=by
 have F:=(AB.refl (λq=>q=p.g1) X).setCell (p:=⟨p.g1,o*7+f,none⟩) rfl u;have eN:∀i,(Cl x.os o y i).hn=(x.os i).hn:=λi=>by
  by_cases e:i=o;.subst e;rw[Bf];exact en
  .rw[BC _ _ e]
 have eS:∀i,(Cl x.os o y i).hs=(x.os i).hs:=λi=>by
  by_cases e:i=o;.subst e;rw[Bf];exact es
  .rw[BC _ _ e]
 have eF:(λi=>(Cl x.os o y i).hn)=(λi=>(x.os i).hn):=funext eN;have h0:0<x.on:=Za;have own:D4 (X.setCell ⟨p.g1,o*7+f,none⟩ u) p.a1 p.g1 x.on (Cl x.os o y) p.A1 p.C1 p.h1:=by
  refine⟨h.o.addr,λ_=>?_,λi hi=>?_,λi hi CF=>?_,?_⟩
  .obtain⟨c,r,e⟩:=h.o.row h0;refine⟨GR c (o*7+f) u,r.set Za u,λi hi=>?_⟩;by_cases ei:i=o
   .subst ei;rw[Bf];have a:=e i hi;have cl:∀k,k<7->GR c (i*7+f) u (i*7+k)=AV (oc y (p.A1 i) (p.C1 i)) k:=λk hk=>by
     rw[hv k hk];unfold GR;by_cases ek:k=f;.rw[if_pos Za,if_pos ek]
     .rw[if_neg Za,if_neg ek];obtain⟨a0,a1,a2,a3,a4,a5,a6⟩:=a;rcases(YP k Za)with rfl|rfl|rfl|rfl|rfl|rfl|rfl;.exact a0
      .exact a1
      .exact a2
      .exact a3
      .exact a4
      .exact a5
      .exact a6
    exact⟨cl 0 Zb,cl 1 Zb,cl 2 Zb,cl 3 Zb,cl 4 Zb,cl 5 Zb,cl 6 Zb⟩
   .rw[BC _ _ ei];exact IS (e i hi) ei Za Za u
  .rw[eN i,eS i];exact(h.o.hold i hi).frP F (λCF=>⟨λe=>h.o.ap.ne i hi CF e,h.o.hlt i hi CF⟩)
  .rw[eN i]at CF;exact Aa (h.o.hlt i hi CF) F.size
  .exact h.o.ap.congr (λi=>(eN i).symm)
 have b1:∀k,O1 p {x with os:=Cl x.os o y} k↔O1 p x k:=λk=>by show Fm p.g1 x.on (λi=>(Cl x.os o y i).hn) p.h1 k↔_;rw[eF];exact Iff.rfl
 have g1b:O1 p x p.g1:=AA ⟨h0,rfl⟩;exact⟨own,h.h.fr F (λk hk e=>h.d12 p.g1 g1b (e▸hk)),h.t.fr F (λk hk e=>h.d13 p.g1 g1b (e▸hk)),λk hk=>h.d12 k ((b1 k).1 hk),λk hk=>h.d13 k ((b1 k).1 hk),h.d23⟩
theorem Jv.setC{p:Pl}(h:Jv X x p)(ho:o<x.hn)(hf:f<9)(u:Value)(y:Ch)(en:y.ob.hn=(x.hs o).ob.hn)(es:y.ob.hs=(x.hs o).ob.hs)(hv:∀k,k<9->AV (cc y (p.A2 o) (p.C2 o)) k=if k=f then u else AV (cc (x.hs o) (p.A2 o) (p.C2 o)) k):Jv (X.setCell ⟨p.g2,o*9+f,none⟩ u) {x with hs:=Cl x.hs o y} p:=by
 have F:=(AB.refl (λq=>q=p.g2) X).setCell (p:=⟨p.g2,o*9+f,none⟩) rfl u;have eN:∀i,(Cl x.hs o y i).ob.hn=(x.hs i).ob.hn:=λi=>by
  by_cases e:i=o;.subst e;rw[Bf];exact en
  .rw[BC _ _ e]
 have eS:∀i,(Cl x.hs o y i).ob.hs=(x.hs i).ob.hs:=λi=>by
  by_cases e:i=o;.subst e;rw[Bf];exact es
  .rw[BC _ _ e]
 have eF:(λi=>(Cl x.hs o y i).ob.hn)=(λi=>(x.hs i).ob.hn):=funext eN;have h0:0<x.hn:=Za;have own:IQ (X.setCell ⟨p.g2,o*9+f,none⟩ u) p.a2 p.g2 x.hn (Cl x.hs o y) p.A2 p.C2 p.h2:=by
  refine⟨h.h.addr,λ_=>?_,λi hi=>?_,λi hi CF=>?_,?_⟩
  .obtain⟨c,r,e⟩:=h.h.row h0;refine⟨GR c (o*9+f) u,r.set Za u,λi hi=>?_⟩;by_cases ei:i=o
   .subst ei;rw[Bf];have a:=e i hi;have cl:∀k,k<9->GR c (i*9+f) u (i*9+k)=AV (cc y (p.A2 i) (p.C2 i)) k:=λk hk=>by
     rw[hv k hk];unfold GR;by_cases ek:k=f;.rw[if_pos Za,if_pos ek]
     .rw[if_neg Za,if_neg ek];obtain⟨a0,a1,a2,a3,a4,a5,a6,a7,a8⟩:=a;rcases(D_ k Za)with rfl|rfl|rfl|rfl|rfl|rfl|rfl|rfl|rfl;.exact a0
      .exact a1
      .exact a2
      .exact a3
      .exact a4
      .exact a5
      .exact a6
      .exact a7
      .exact a8
    exact⟨cl 0 Zb,cl 1 Zb,cl 2 Zb,cl 3 Zb,cl 4 Zb,cl 5 Zb,cl 6 Zb,cl 7 Zb,cl 8 Zb⟩
   .rw[BC _ _ ei];exact wO (e i hi) ei Za Za u
  .rw[eN i,eS i];exact(h.h.hold i hi).frP F (λCF=>⟨λe=>h.h.ap.ne i hi CF e,h.h.hlt i hi CF⟩)
  .rw[eN i]at CF;exact Aa (h.h.hlt i hi CF) F.size
  .exact h.h.ap.congr (λi=>(eN i).symm)
 have b2:∀k,UI p {x with hs:=Cl x.hs o y} k↔UI p x k:=λk=>by show Fm p.g2 x.hn (λi=>(Cl x.hs o y i).ob.hn) p.h2 k↔_;rw[eF];exact Iff.rfl
 have g2b:UI p x p.g2:=AA ⟨h0,rfl⟩;exact⟨h.o.fr F (λk hk e=>h.d12 p.g2 (e▸hk) g2b),own,h.t.fr F (λk hk e=>h.d23 p.g2 g2b (e▸hk)),λk hk cC=>h.d12 k hk ((b2 k).1 cC),h.d13,λk hk=>h.d23 k ((b2 k).1 hk)⟩
theorem Jv.spH{p:Pl}(hb:Jv X x p)(ho:o<x.on)(hh:h<x.hn)(By:AE X T 5 (AV (JR x p.a1 p.a2 p.a3 d1 d2 d3)))(hTR:¬T=R)(hR:∀q,GA p x q->¬q=R)(bn:-1000000<=x.v/\x.v<=1000000)(bf:-1000000<=x.f/\x.f<=1000000)(bv:-1000000<=(x.os o).t/\(x.os o).t<=1000000)(bb:-1000000<=(x.os o).b/\(x.os o).b<=1000000)(bz:-1000000<=(x.hs h).t/\(x.hs h).t<=1000000)(bt:(x.os o).m.size<=300):SC X R T x p.g1 p.g2 p.a3 d1 d2 d3 o h (x.os o) (x.hs h) (p.A1 o) (p.A2 h) (p.C1 o) (p.C2 h):=by
 have e1:=hb.o.addr Za;have e2:=hb.h.addr Za;rw[e1,e2]at By;obtain⟨c,r,ec⟩:=hb.o.row Za;obtain⟨d,s,ed⟩:=hb.h.row Za;refine⟨By,By.lt,hTR,λf hf=>?_,r.free,r.lt,hR _ (AA (AA ⟨Za,rfl⟩)),λf hf=>?_,s.free,s.lt,hR _ (Az (AA (AA ⟨Za,rfl⟩))),ho,hh,bn,bf,bv,bb,bz,bt⟩
 .rw[r.cell _ Za];obtain⟨a0,a1,a2,a3,a4,a5,a6⟩:=ec o ho;rcases(YP f Za)with rfl|rfl|rfl|rfl|rfl|rfl|rfl;.exact congrArg some a0
  .exact congrArg some a1
  .exact congrArg some a2
  .exact congrArg some a3
  .exact congrArg some a4
  .exact congrArg some a5
  .exact congrArg some a6
 .rw[s.cell _ Za];obtain⟨a0,a1,a2,a3,a4,a5,a6,a7,a8⟩:=ed h hh;rcases(D_ f Za)with rfl|rfl|rfl|rfl|rfl|rfl|rfl|rfl|rfl;.exact congrArg some a0
  .exact congrArg some a1
  .exact congrArg some a2
  .exact congrArg some a3
  .exact congrArg some a4
  .exact congrArg some a5
  .exact congrArg some a6
  .exact congrArg some a7
  .exact congrArg some a8
def Sz (y:Bk):Prop:=y.on<=200/\y.hn<=400
def Dr5 (R:Nat)(ad:OA)(nn cap p:Nat)(w:World)(e:Ending)(w':World):Prop:=∃(y:Bk)(b1 b2 b3:OA)(e1 e2 e3:Nat),e=.returned (.agg #[.i y.v,.i y.f,.l b1 y.on e1,.l b2 y.hn e2,.l b3 y.tn e3])/\BL w' 0 w'.1.size y b1 b2 b3/\BS y/\Sz y/\Dn R ad nn cap p 4000 w w'
structure N4 (w:World)(R:Nat)(ad:OA)(nn cap p:Nat)(x:Bk)(P:Pl)(d1 d2 d3 T:Nat)(X:World):Prop where
 f:AB (λq=>q=R) w X
 r:Rd X R ad nn cap p
 a:AE X (w.1.size+1) 5 (AV [.i 0,.i 0,.l none 0 0,.l none 0 0,.l none 0 0])an:IC X (w.1.size+1)t:AE X T 5 (AV [.i x.v,.i x.f,.l P.a1 x.on d1,.l P.a2 x.hn d2,.l P.a3 x.tn d3])tn:IC X T
 c:VS x (w.1.size+2) X P d1 d2 d3
 tb:∀q,GA P x q->q<T
 T0:w.1.size+2<=T
 sz:x.on<=100/\x.hn<=200
theorem N4.pick (h:N4 w R ad nn cap p x P d1 d2 d3 T X)(hR:R<w.1.size)(hf:AB (λq=>q=R) X Y)(hr:Rd Y R ad nn cap p'):N4 w R ad nn cap p' x P d1 d2 d3 T Y:=⟨h.f.trans hf,hr,h.a.fr2 hf Za,h.an.fr hf h.a.lt Za,h.t.fr2 hf (by have:=h.T0;omega),h.tn.fr hf h.t.lt (by have:=h.T0;omega),h.c.box hf Za,h.tb,h.T0,h.sz⟩
def xS (w:World)(R:Nat)(ad:OA)(nn cap p k T:Nat)(X:World):Prop:=∃(y:Bk)(b1 b2 b3:OA)(e1 e2 e3 p':Nat),(p<=p'/\p'<=p+k)/\AB (λq=>q=R) w X/\Rd X R ad nn cap p'/\AE X (w.1.size+1) 5 (AV [.i 0,.i 0,.l none 0 0,.l none 0 0,.l none 0 0])/\IC X (w.1.size+1)/\AE X T 5 (AV [.i y.v,.i y.f,.l b1 y.on e1,.l b2 y.hn e2,.l b3 y.tn e3])/\BL X 0 X.1.size y b1 b2 b3/\BS y/\Sz y
theorem N4.cell (h:N4 w R ad nn cap p' x P d1 d2 d3 T X)(hw:Rd w R ad nn cap p0)(hg:GA P x g)(y:Bk)(DR:Jv (X.setCell ⟨g,off,none⟩ u) y P)(e1:y.v=x.v)(e2:y.f=x.f)(e3:y.on=x.on)(e4:y.hn=x.hn)(e5:y.tn=x.tn)(BG:BS y)(hq:p<=p'/\p'<=p+k):xS w R ad nn cap p k T (X.setCell ⟨g,off,none⟩ u):=by have hR:=hw.lt;have g0:=h.c.lo g hg;have gT:=h.tb g hg;have F:=(AB.refl (λq=>q=g) X).setCell (p:=⟨g,off,none⟩) rfl u;have f2:=h.f.far (z:=g) Za off u;refine⟨y,P.a1,P.a2,P.a3,d1,d2,d3,p',hq,f2,hw.keep h.r f2 (F.mono (λq hq e=>by omega)),h.a.fr F Za,h.an.fr F h.a.lt Za,?_,DR.isIn (λ_ _=>Ar _),BG,⟨by have:=h.sz.1;omega,by have:=h.sz.2;omega⟩⟩;rw[e1,e2,e3,e4,e5];exact h.t.fr F Za
theorem N4.head (h:N4 w R ad nn cap p' x P d1 d2 d3 T X)(hw:Rd w R ad nn cap p0)(ho:o<5)(y:Bk)(b1 b2 b3:OA)(e1 e2 e3:Nat)(hv:∀j,j<5->GR (AV [.i x.v,.i x.f,.l P.a1 x.on d1,.l P.a2 x.hn d2,.l P.a3 x.tn d3]) o u j=AV [.i y.v,.i y.f,.l b1 y.on e1,.l b2 y.hn e2,.l b3 y.tn e3] j)(Cs:BL (X.setCell ⟨T,o,none⟩ u) 0 X.1.size y b1 b2 b3)(BG:BS y)(hq:p<=p'/\p'<=p+k)(z3:y.on=x.on:=by rfl)(z4:y.hn=x.hn:=by rfl):xS w R ad nn cap p k T (X.setCell ⟨T,o,none⟩ u):=by have hR:=hw.lt;have T0:=h.T0;have F:=(AB.refl (λq=>q=T) X).setCell (p:=⟨T,o,none⟩) rfl u;have f2:=h.f.far (z:=T) Za o u;exact⟨y,b1,b2,b3,e1,e2,e3,p',hq,f2,hw.keep h.r f2 (F.mono (λq hq e=>by omega)),h.a.fr F Za,h.an.fr F h.a.lt Za,(h.t.set ho u).congr hv,Cs.upTo F.size,BG,⟨by have:=h.sz.1;omega,by have:=h.sz.2;omega⟩⟩
theorem UQ (h:BS x)(hy:Cu y):BS {x with os:=Cl x.os o y}:=⟨h.o,h.h,h.t,λi hi=>by
 show Cu (Cl x.os o y i);by_cases e:i=o;.subst e;rw[Bf];exact hy
 .rw[BC _ _ e];exact h.os i hi,h.hs,h.ts⟩
theorem iB{y:Ch}(h:BS x)(hy:Cu y.ob):BS {x with hs:=Cl x.hs o y}:=⟨h.o,h.h,h.t,h.os,λi hi=>by
 show Cu (Cl x.hs o y i).ob;by_cases e:i=o;.subst e;rw[Bf];exact hy
 .rw[BC _ _ e];exact h.hs i hi,h.ts⟩
theorem Pr{y':Ob}(h0:Value.string y'.k=if 0=f then u else .s y.k:=by rfl)(h1:Value.string y'.n=if 1=f then u else .s y.n:=by rfl)(h2:Value.int .i64 y'.t=if 2=f then u else .i y.t:=by rfl)(h3:Value.int .i64 y'.b=if 3=f then u else .i y.b:=by rfl)(h4:Value.string y'.m=if 4=f then u else .s y.m:=by rfl)(h5:Value.bool y'.e=if 5=f then u else .bool y.e:=by rfl)(h6:Value.slice A y'.hn C=if 6=f then u else .l A y.hn C:=by rfl):∀k,k<7->AV (oc y' A C) k=if k=f then u else AV (oc y A C) k:=λk hk=>by
 rcases(YP k Za)with rfl|rfl|rfl|rfl|rfl|rfl|rfl;.exact h0
 .exact h1
 .exact h2
 .exact h3
 .exact h4
 .exact h5
 .exact h6
theorem TZ{y y':Ch}(h0:Value.int .i64 y'.t=if 0=f then u else .i y.t:=by rfl)(h1:Value.bool y'.g=if 1=f then u else .bool y.g:=by rfl)(h2:Value.string y'.ob.k=if 2=f then u else .s y.ob.k:=by rfl)(h3:Value.string y'.ob.n=if 3=f then u else .s y.ob.n:=by rfl)(h4:Value.int .i64 y'.ob.t=if 4=f then u else .i y.ob.t:=by rfl)(h5:Value.int .i64 y'.ob.b=if 5=f then u else .i y.ob.b:=by rfl)(h6:Value.string y'.ob.m=if 6=f then u else .s y.ob.m:=by rfl)(h7:Value.bool y'.ob.e=if 7=f then u else .bool y.ob.e:=by rfl)(h8:Value.slice A y'.ob.hn C=if 8=f then u else .l A y.ob.hn C:=by rfl):∀k,k<9->AV (cc y' A C) k=if k=f then u else AV (cc y A C) k:=λk hk=>by
 rcases(D_ k Za)with rfl|rfl|rfl|rfl|rfl|rfl|rfl|rfl|rfl;.exact h0
 .exact h1
 .exact h2
 .exact h3
 .exact h4
 .exact h5
 .exact h6
 .exact h7
 .exact h8
theorem Tb (l:List Value)(d:Value):l=(List.range l.length).map (λi=>l.getD i d):=by
 apply Qo;.simp
 .intro n h1 h2;simp[h1]
theorem Gq{Rl:World->Prop}{l:List Value}{D:List Deferred}{v4 v5:Value}(h:Rl w)(h4:l.getD 4 undef=v4)(h5:l.getD 5 undef=v5)(hl:l.length=390):∃t:Nat->Value,(t 4=v4/\t 5=v5/\Rl w)/\Act.mk l.toArray D=⟨C9 t,D⟩:=by refine⟨λi=>l.getD i undef,⟨h4,h5,h⟩,?_⟩;have e:=Tb l undef;rw[hl]at e;exact congrArg (λk=>Act.mk (List.toArray k) D) e
theorem az{i:Int}(h0:-100000000<=i)(h1:i<=100000000):(Lit.int .i64 i).wf=true:=by have a:IntKind.i64.min<=-100000000:=Zb;have b:(100000000:Int)<=IntKind.i64.max:=Zb;simp only[Lit.wf,As,decide_eq_true_eq];omega
theorem AB.up (h:AB (λq=>q=R) w X)(hf:AB (λq=>q=R\/Pq q) X Y)(hq:∀q,Pq q->w.1.size<=q):AB (λq=>q=R) w Y:=⟨hf.os.trans h.os,hf.tape.trans h.tape,hf.output.trans h.output,AJ h.size hf.size,λk hk hn=>(hf.block k (Aa hk h.size) (λe=>by
  rcases e with e|e;.exact hn e
  .have:=hq k e;omega)).trans (h.block k hk hn)⟩
theorem N4.fin (h:N4 w R ad nn cap p' x P d1 d2 d3 T X)(hw:Rd w R ad nn cap p0)(hf:AB (λq=>q=R\/Pq q) X Y)(AW:Rd Y R ad nn cap p2)(hq:∀q,Pq q->w.1.size+2<=q){z:Nat}(hz:w.1.size+2<=z)(y:Bk)(b1 b2 b3:OA)(e1 e2 e3:Nat)(row:AE (Y.setCell ⟨z,off,none⟩ u) T 5 (AV [.i y.v,.i y.f,.l b1 y.on e1,.l b2 y.hn e2,.l b3 y.tn e3]))(Cs:BL (Y.setCell ⟨z,off,none⟩ u) 0 (Y.setCell ⟨z,off,none⟩ u).1.size y b1 b2 b3)(BG:BS y)(hp:p<=p2/\p2<=p+k)(zz:y.on<=x.on+1/\y.hn<=x.hn+1:=by constructor<;>dsimp only<;>omega):xS w R ad nn cap p k T (Y.setCell ⟨z,off,none⟩ u):=by
 have hR:=hw.lt;have f1:=h.f.up hf (λq e=>by have:=hq q e;omega);have F:=(AB.refl (λq=>q=z) Y).setCell (p:=⟨z,off,none⟩) rfl u;have f2:=f1.far (z:=z) Za off u;have a1:AE Y (w.1.size+1) 5 (AV [.i 0,.i 0,.l none 0 0,.l none 0 0,.l none 0 0]):=h.a.fr hf (λe=>by
  rcases e with e|e;.omega
  .have:=hq _ e;omega);have n1:IC Y (w.1.size+1):=h.an.fr hf h.a.lt (λe=>by
  rcases e with e|e;.omega
  .have:=hq _ e;omega);exact⟨y,b1,b2,b3,e1,e2,e3,p2,hp,f2,hw.keep AW f2 (F.mono (λq hq e=>by omega)),a1.fr F Za,n1.fr F a1.lt Za,row,Cs,BG,⟨by have:=h.sz.1;omega,by have:=h.sz.2;omega⟩⟩
theorem H6 (h:j<m):Cp c m d j=c j:=if_pos h
theorem Vq:Cp c m d (m+j)=d j:=by unfold Cp;rw[if_neg Za,Ez]
theorem N4.spT (h:N4 w R ad nn cap p' x P d1 d2 d3 T X)(hw:Rd w R ad nn cap p0)(FO:∀b off,ad=some ⟨b,off,none⟩->b<w.1.size)(SJ:x.tn<=50):∃gA,SpT X R T ad x gA P.a3 d3/\(0<d3->0<x.tn/\gA=P.g3)/\w.1.size+2<=gA:=by
 have hR:=hw.lt;have T0:=h.T0;have z0:=h.c.z;rcases Bi x.tn with e|e;.have z1:=z0 e;exact⟨w.1.size+2,⟨⟨λi=>by omega,Za,λi=>by omega,λj hj=>by omega⟩,Za,Za,λb off hb=>by have:=FO b off hb;omega,SJ,Za⟩,Za,AG _⟩
 .have bl:GA P x P.g3:=Az (Az ⟨e,rfl⟩);have g0:=h.c.lo _ bl;have gT:=h.tb _ bl;obtain⟨c,r,ec⟩:=h.c.d.t.row e;refine⟨P.g3,⟨⟨λ_=>h.c.d.t.addr e,h.c.c.1,λ_=>h.c.t e,λj hj=>?_⟩,Za,Za,λb off hb=>by have:=FO b off hb;omega,SJ,λ_=>r.lt⟩,λ_=>⟨e,rfl⟩,g0⟩;rw[r.cell j hj];obtain⟨i,f,rfl,hf⟩:∃i f,j=i*5+f/\f<5:=⟨j/5,j%5,Za,Za⟩;obtain⟨a0,a1,a2,a3,a4⟩:=ec i Za;obtain⟨t0,t1,t2,t3,t4⟩:=Vi x.ts i;rcases(VU f Za)with rfl|rfl|rfl|rfl|rfl;.exact congrArg some (a0.trans t0.symm)
  .exact congrArg some (a1.trans t1.symm)
  .exact congrArg some (a2.trans t2.symm)
  .exact congrArg some (a3.trans t3.symm)
  .exact congrArg some (a4.trans t4.symm)
theorem N4.tick (h:N4 w R ad nn cap p' x P d1 d2 d3 T X)(hw:Rd w R ad nn cap p0)(hA:0<d3->0<x.tn/\gA=P.g3)(ks:w.1.size+2<=gA)(SJ:x.tn<=50)(BG:BS x){kt:Ti}(hu:Rw Y ad' g' (x.tn+1) cap' 5 (Cp (G5 x.ts) (x.tn*5) (AV (tv kt)))/\((0<d3/\g'=gA)\/X.1.size<=g')/\kt.c.size<=1000/\kt.print.size<=1000)(hf:AB (λq=>q=R\/(0<d3/\q=gA)) X Y)(AW:Rd Y R ad nn cap p2)(hp:p<=p2/\p2<=p+k):xS w R ad nn cap p k T (Y.setCell ⟨T,4,none⟩ (.l ad' (x.tn+1:Nat) cap')):=by
 obtain⟨hr,hg,pH,cC⟩:=hu;have hR:=hw.lt;have T0:=h.T0;have Tl:=h.t.lt;have gT:0<d3->gA<T:=λe=>by have a:=hA e;rw[a.2];exact h.tb _ (Az (Az ⟨a.1,rfl⟩))
 have gne:¬g'=T:=by
  rcases hg with e|e;.have:=gT e.1;omega
  .omega
 have F:AB (λq=>q=R\/((0<d3/\q=gA)\/q=T)) X (Y.setCell ⟨T,4,none⟩ (.l ad' (x.tn+1:Nat) cap')):=(hf.mono (λq e=>by rcases e with e|e;exact AA e;exact Az (AA e))).setCell (p:=⟨T,4,none⟩) (Az (Az rfl)) _;have F2:=(AB.refl (λq=>q=T) Y).setCell (p:=⟨T,4,none⟩) rfl (.l ad' (x.tn+1:Nat) cap');have far:∀q,GA P x q->¬(0<x.tn/\q=P.g3)->¬(q=R\/((0<d3/\q=gA)\/q=T)):=λq hq hn e=>by
  have l1:=h.c.lo q hq;have l2:=h.tb q hq;rcases e with e|e|e;.omega
  .have a:=hA e.1;exact hn ⟨a.1,e.2.trans a.2⟩
  .omega
 refine h.fin hw hf AW (λq e=>by rw[e.2];exact ks) Za {x with tn:=x.tn+1,ts:=Cl x.ts x.tn kt} P.a1 P.a2 ad' d1 d2 cap' ?_ ⟨?_,?_,?_⟩ ?_ hp
 .have r0:=(h.t.fr hf (λe=>by
   rcases e with e|e;.omega
   .have:=gT e.1;omega)).set (o:=4) Zb (.l ad' (x.tn+1:Nat) cap');exact af
 .exact(h.c.d.o.fr F (λq hq=>far q (AA hq) (λe=>h.c.d.d13 q hq e))).isIn (λ_ _=>Ar _)
 .exact(h.c.d.h.fr F (λq hq=>far q (Az (AA hq)) (λe=>h.c.d.d23 q hq e))).isIn (λ_ _=>Ar _)
 .intro i hi;have c0:0<cap':=by have:=hr.le;omega
  have gl:=(hr.room c0).lt;have cl:∀f,f<5->(Y.setCell ⟨T,4,none⟩ (.l ad' (x.tn+1:Nat) cap')).cell? ⟨g',i*5+f,none⟩=some (Cp (G5 x.ts) (x.tn*5) (AV (tv kt)) (i*5+f)):=λf hf=>(F2.cell (p:=⟨g',i*5+f,none⟩) gl gne).trans (hr.cell _ (by have:i<x.tn+1:=hi;omega));refine⟨g',0,hr.addr c0,Ar _,Aa gl F2.size,?_⟩;rw[A6];show Ji _ _ _ (Cl x.ts x.tn kt i);by_cases e:i=x.tn;.subst e;rw[Bf];have q:∀f,f<5->(Y.setCell ⟨T,4,none⟩ (.l ad' (x.tn+1:Nat) cap')).cell? ⟨g',x.tn*5+f,none⟩=some (AV (tv kt) f):=λf hf=>(cl f hf).trans (congrArg some Vq);exact⟨q 0 Zb,q 1 Zb,q 2 Zb,q 3 Zb,q 4 Zb⟩
  .rw[BC _ _ e];have hi':i<x.tn:=by have:i<x.tn+1:=hi;omega
   have q:∀f,f<5->(Y.setCell ⟨T,4,none⟩ (.l ad' (x.tn+1:Nat) cap')).cell? ⟨g',i*5+f,none⟩=some (G5 x.ts (i*5+f)):=λf hf=>(cl f hf).trans (congrArg some (H6 Za));obtain⟨t0,t1,t2,t3,t4⟩:=Vi x.ts i;exact⟨(q 0 Zb).trans (congrArg some t0),(q 1 Zb).trans (congrArg some t1),(q 2 Zb).trans (congrArg some t2),(q 3 Zb).trans (congrArg some t3),(q 4 Zb).trans (congrArg some t4)⟩
 .refine⟨BG.o,BG.h,?_,BG.os,BG.hs,λi hi=>?_⟩;.show((x.tn+1:Nat):Int)<=_;omega
  .show XB (Cl x.ts x.tn kt i);by_cases e:i=x.tn;.subst e;rw[Bf];exact⟨Za,Za⟩
   .rw[BC _ _ e];exact BG.ts i (by have:i<x.tn+1:=hi;omega)
theorem Ma{i:Nat}(h:L0 c i y A C)(hf:f<7):c (i*7+f)=AV (oc y A C) f:=by
 obtain⟨a0,a1,a2,a3,a4,a5,a6⟩:=h;rcases(YP f Za)with rfl|rfl|rfl|rfl|rfl|rfl|rfl;.exact a0
 .exact a1
 .exact a2
 .exact a3
 .exact a4
 .exact a5
 .exact a6
theorem OX{b:Nat}(q:∀f,f<7->w.cell? ⟨g,b+f,none⟩=some (AV (oc y A C) f)):DF w g b y A C:=⟨q 0 Zb,q 1 Zb,q 2 Zb,q 3 Zb,q 4 Zb,q 5 Zb,q 6 Zb⟩
theorem BA.wide{n:Nat}{s:Nat->ByteArray}(h:BA w g (g+1) ad n s)(hl:n≠0->g<w.1.size):AK w 0 w.1.size ad n s:=λi hi=>by obtain⟨b,off,e1,e2,e3,e4,e5⟩:=h i hi;have:=hl Za;exact⟨b,off,e1,Ar _,Za,e4⟩
theorem N4.spO (h:N4 w R ad nn cap p' x P d1 d2 d3 T X)(hw:Rd w R ad nn cap p0)(FO:∀b off,ad=some ⟨b,off,none⟩->b<w.1.size)(GJ:x.on<=100)(h0:0<x.on):∃cA,SpO X R T ad x P.g1 d1 cA/\(∀i,i<x.on->L0 cA i (x.os i) (P.A1 i) (P.C1 i))/\w.1.size+2<=P.g1:=by have hR:=hw.lt;have T0:=h.T0;have bl:GA P x P.g1:=AA (AA ⟨h0,rfl⟩);have g0:=h.c.lo _ bl;have gT:=h.tb _ bl;obtain⟨c,r,ec⟩:=h.c.d.o.row h0;refine⟨c,⟨⟨λ_=>rfl,h.c.ob.le,λ_=>h.c.ob.row h0,λj hj=>r.cell j hj⟩,λj hj=>?_,Za,λb off hb=>by have:=FO b off hb;omega,GJ⟩,ec,g0⟩;obtain⟨i,f,rfl,hf⟩:∃i f,j=i*7+f/\f<7:=⟨j/7,j%7,Za,Za⟩;rw[Ma (ec i Za) hf];exact ar _ _ _ f hf
theorem N4.objs (h:N4 w R ad nn cap p' x P d1 d2 d3 T X)(hw:Rd w R ad nn cap p0)(ho:o<x.on)(GJ:x.on<=100)(hA:∀i,i<x.on->L0 cA i (x.os i) (P.A1 i) (P.C1 i))(ks:w.1.size+2<=P.g1)(BG:BS x)(hu:Rw Y ad' g' (x.on+1) cap' 7 (Cp cA (x.on*7) (AV (oc (x.os o) (P.A1 o) (P.C1 o))))/\((0<d1/\g'=P.g1)\/X.1.size<=g'))(hf:AB (λq=>q=R\/(0<d1/\q=P.g1)) X Y)(AW:Rd Y R ad nn cap p2)(hp:p<=p2/\p2<=p+k):xS w R ad nn cap p k T (Y.setCell ⟨T,2,none⟩ (.l ad' (x.on+1:Nat) cap')):=by
 obtain⟨hr,hg⟩:=hu;have hR:=hw.lt;have T0:=h.T0;have Tl:=h.t.lt;have gT:=h.tb _ (AA (AA ⟨(by omega:0<x.on),rfl⟩));have gne:¬g'=T:=by
  rcases hg with e|e;.omega
  .omega
 have F:AB (λq=>q=R\/((0<d1/\q=P.g1)\/q=T)) X (Y.setCell ⟨T,2,none⟩ (.l ad' (x.on+1:Nat) cap')):=(hf.mono (λq e=>by rcases e with e|e;exact AA e;exact Az (AA e))).setCell (p:=⟨T,2,none⟩) (Az (Az rfl)) _;have F2:=(AB.refl (λq=>q=T) Y).setCell (p:=⟨T,2,none⟩) rfl (.l ad' (x.on+1:Nat) cap');have far:∀q,GA P x q->¬q=P.g1->¬(q=R\/((0<d1/\q=P.g1)\/q=T)):=λq hq hn e=>by exact wk
 have b1:O1 P x P.g1:=AA ⟨Za,rfl⟩;have hold:∀i,i<x.on->AK (Y.setCell ⟨T,2,none⟩ (.l ad' (x.on+1:Nat) cap')) 0 (Y.setCell ⟨T,2,none⟩ (.l ad' (x.on+1:Nat) cap')).1.size (P.A1 i) (x.os i).hn (x.os i).hs:=λi hi=>((h.c.d.o.hold i hi).frP F (λCF=>⟨far _ (AA (Az ⟨i,hi,CF,rfl⟩)) (h.c.d.o.ap.ne i hi CF),h.c.d.o.hlt i hi CF⟩)).wide (λCF=>Aa (h.c.d.o.hlt i hi CF) F.size);refine h.fin hw hf AW (λq e=>by rw[e.2];exact ks) Za {x with on:=x.on+1,os:=Cl x.os x.on (x.os o)} ad' P.a2 P.a3 cap' d2 d3 ?_ ⟨?_,?_,?_⟩ ?_ hp;.have r0:=(h.t.fr hf (λe=>by rcases e with e|e<;>omega)).set (o:=2) Zb (.l ad' (x.on+1:Nat) cap');exact af
 .intro i hi;have c0:0<cap':=by have:=hr.le;omega
  have gl:=(hr.room c0).lt;have cl:∀f,f<7->(Y.setCell ⟨T,2,none⟩ (.l ad' (x.on+1:Nat) cap')).cell? ⟨g',i*7+f,none⟩=some (Cp cA (x.on*7) (AV (oc (x.os o) (P.A1 o) (P.C1 o))) (i*7+f)):=λf hf=>(F2.cell (p:=⟨g',i*7+f,none⟩) gl gne).trans (hr.cell _ (by have:i<x.on+1:=hi;omega));show∃b off ah ch,_/\_/\_/\DF _ _ _ (Cl x.os x.on (x.os o) i) _ _/\AK _ _ _ _ (Cl x.os x.on (x.os o) i).hn (Cl x.os x.on (x.os o) i).hs;by_cases e:i=x.on;.subst e;rw[Bf];refine⟨g',0,P.A1 o,P.C1 o,hr.addr c0,Ar _,Aa gl F2.size,?_,hold o ho⟩;rw[A6];exact OX (λf hf=>(cl f hf).trans (congrArg some Vq))
  .rw[BC _ _ e];have hi':i<x.on:=by have:i<x.on+1:=hi;omega
   refine⟨g',0,P.A1 i,P.C1 i,hr.addr c0,Ar _,Aa gl F2.size,?_,hold i hi'⟩;rw[A6];exact OX (λf hf=>(cl f hf).trans (congrArg some ((H6 Za).trans (Ma (hA i hi') hf))))
 .exact vv
 .exact xd
 .refine⟨?_,BG.h,BG.t,λi hi=>?_,BG.hs,BG.ts⟩;.show((x.on+1:Nat):Int)<=_;omega
  .show Cu (Cl x.os x.on (x.os o) i);by_cases e:i=x.on;.subst e;rw[Bf];exact BG.os o ho
   .rw[BC _ _ e];exact BG.os i (by have:i<x.on+1:=hi;omega)
theorem N4.dele (h:N4 w R ad nn cap p' x P d1 d2 d3 T X)(hw:Rd w R ad nn cap p0)(ho:o<x.on)(GJ:x.on<=100)(hA:∀i,i<x.on->L0 cA i (x.os i) (P.A1 i) (P.C1 i))(ks:w.1.size+2<=P.g1)(BG:BS x)(hr:Rw Y (some ⟨P.g1,0,none⟩) P.g1 (x.on-1) d1 7 (Vu cA o))(hf:AB (λq=>q=R\/(0<d1/\q=P.g1)) X Y)(AW:Rd Y R ad nn cap p2)(hp:p<=p2/\p2<=p+k):xS w R ad nn cap p k T (Y.setCell ⟨T,2,none⟩ (.l (some ⟨P.g1,0,none⟩) (x.on-1:Nat) d1)):=by
 have hR:=hw.lt;have T0:=h.T0;have Tl:=h.t.lt;have gT:=h.tb _ (AA (AA ⟨(by omega:0<x.on),rfl⟩));have F:AB (λq=>q=R\/((0<d1/\q=P.g1)\/q=T)) X (Y.setCell ⟨T,2,none⟩ (.l (some ⟨P.g1,0,none⟩) (x.on-1:Nat) d1)):=(hf.mono (λq e=>by rcases e with e|e;exact AA e;exact Az (AA e))).setCell (p:=⟨T,2,none⟩) (Az (Az rfl)) _;have F2:=(AB.refl (λq=>q=T) Y).setCell (p:=⟨T,2,none⟩) rfl (.l (some ⟨P.g1,0,none⟩) (x.on-1:Nat) d1);have far:∀q,GA P x q->¬q=P.g1->¬(q=R\/((0<d1/\q=P.g1)\/q=T)):=λq hq hn e=>by exact wk
 have b1:O1 P x P.g1:=AA ⟨Za,rfl⟩;have hold:∀i,i<x.on->AK (Y.setCell ⟨T,2,none⟩ (.l (some ⟨P.g1,0,none⟩) (x.on-1:Nat) d1)) 0 (Y.setCell ⟨T,2,none⟩ (.l (some ⟨P.g1,0,none⟩) (x.on-1:Nat) d1)).1.size (P.A1 i) (x.os i).hn (x.os i).hs:=λi hi=>((h.c.d.o.hold i hi).frP F (λCF=>⟨far _ (AA (Az ⟨i,hi,CF,rfl⟩)) (h.c.d.o.ap.ne i hi CF),h.c.d.o.hlt i hi CF⟩)).wide (λCF=>Aa (h.c.d.o.hlt i hi CF) F.size);refine h.fin hw hf AW (λq e=>by rw[e.2];exact ks) Za {x with on:=x.on-1,os:=λi=>if i<o then x.os i else x.os (i+1)} (some ⟨P.g1,0,none⟩) P.a2 P.a3 d1 d2 d3 ?_ ⟨?_,?_,?_⟩ ?_ hp;.have r0:=(h.t.fr hf (λe=>by rcases e with e|e<;>omega)).set (o:=2) Zb (.l (some ⟨P.g1,0,none⟩) (x.on-1:Nat) d1);exact af
 .intro i hi;have hi':i<x.on-1:=hi;have c0:0<d1:=by have:=hr.le;omega
  have gl:=(hr.room c0).lt;have cl:∀f,f<7->(Y.setCell ⟨T,2,none⟩ (.l (some ⟨P.g1,0,none⟩) (x.on-1:Nat) d1)).cell? ⟨P.g1,i*7+f,none⟩=some (Vu cA o (i*7+f)):=λf hf=>(F2.cell (p:=⟨P.g1,i*7+f,none⟩) gl (show¬P.g1=T by omega)).trans (hr.cell _ Za);show∃b off ah ch,_/\_/\_/\DF _ _ _ (if i<o then x.os i else x.os (i+1)) _ _/\AK _ _ _ _ (if i<o then x.os i else x.os (i+1)).hn (if i<o then x.os i else x.os (i+1)).hs;by_cases e:i<o;.rw[if_pos e];refine⟨P.g1,0,P.A1 i,P.C1 i,rfl,Ar _,Aa gl F2.size,?_,hold i Za⟩;rw[A6];exact OX (λf hf=>(cl f hf).trans (congrArg some ((show Vu cA o (i*7+f)=cA (i*7+f)from if_pos Za).trans (Ma (hA i Za) hf))))
  .rw[if_neg e];refine⟨P.g1,0,P.A1 (i+1),P.C1 (i+1),rfl,Ar _,Aa gl F2.size,?_,hold (i+1) Za⟩;rw[A6];refine OX (λf hf=>(cl f hf).trans (congrArg some ((show Vu cA o (i*7+f)=cA (i*7+f+7)from if_neg Za).trans ?_)));rw[show i*7+f+7=(i+1)*7+f by omega];exact Ma (hA (i+1) Za) hf
 .exact vv
 .exact xd
 .refine⟨?_,BG.h,BG.t,λi hi=>?_,BG.hs,BG.ts⟩;.show((x.on-1:Nat):Int)<=_;omega
  .have hi':i<x.on-1:=hi;show Cu (if i<o then x.os i else x.os (i+1));by_cases e:i<o;.rw[if_pos e];exact BG.os i Za
   .rw[if_neg e];exact BG.os (i+1) Za
theorem N4.spL (h:N4 w R ad nn cap p' x P d1 d2 d3 T X)(hw:Rd w R ad nn cap p0)(FO:∀b off,ad=some ⟨b,off,none⟩->b<w.1.size)(ho:o<x.on)(h5:(x.os o).hn<=5):∃gA,SpL X R T ad P.g1 (x.os o) gA (P.A1 o) (P.C1 o)/\(0<P.C1 o->(x.os o).hn≠0/\gA=P.h1 o)/\w.1.size+2<=gA:=by
 have hR:=hw.lt;have T0:=h.T0;have bl:GA P x P.g1:=AA (AA ⟨Za,rfl⟩);have g0:=h.c.lo _ bl;have gT:=h.tb _ bl;obtain⟨r1,r2,r3⟩:=h.c.ob.ho o ho;rcases Bi (x.os o).hn with e|e;.have z1:=r2 e;exact⟨w.1.size+2,⟨⟨λi=>by omega,Za,λi=>by omega,λj hj=>by omega⟩,Za,Za,Za,λb off hb=>by have:=FO b off hb;omega,h5,Za⟩,Za,AG _⟩
 .have CF:(x.os o).hn≠0:=Za;have bl2:GA P x (P.h1 o):=AA (Az ⟨o,ho,CF,rfl⟩);have g2:=h.c.lo _ bl2;have gT2:=h.tb _ bl2;have nn1:=h.c.d.o.ap.ne o ho CF;refine⟨P.h1 o,⟨⟨λe=>(r3 e).1,r1,λe=>by rw[Oq];exact(r3 e).2,λj hj=>?_⟩,Za,Za,Za,λb off hb=>by have:=FO b off hb;omega,h5,λ_=>h.c.d.o.hlt o ho CF⟩,λ_=>⟨CF,rfl⟩,g2⟩;obtain⟨b,off,e1,e2,e3,e4,e5⟩:=h.c.d.o.hold o ho j Za;have a1:=(r3 Za).1;rw[a1]at e1;cases e1;rw[A6]at e4;exact e4
theorem N4.hold (h:N4 w R ad nn cap p' x P d1 d2 d3 T X)(hw:Rd w R ad nn cap p0)(ho:o<x.on)(h5:(x.os o).hn<=5)(hA:0<P.C1 o->(x.os o).hn≠0/\gA=P.h1 o)(ks:w.1.size+2<=gA)(BG:BS x){s:ByteArray}(hu:Rw Y ad' g' ((x.os o).hn+1) cap' 1 (Cp (λj=>.s ((x.os o).hs j)) ((x.os o).hn*1) (λ_=>.s s))/\((0<P.C1 o/\g'=gA)\/X.1.size<=g')/\s.size<=1000)(hf:AB (λq=>q=R\/(0<P.C1 o/\q=gA)) X Y)(AW:Rd Y R ad nn cap p2)(hp:p<=p2/\p2<=p+k):xS w R ad nn cap p k T (Y.setCell ⟨P.g1,o*7+6,none⟩ (.l ad' ((x.os o).hn+1:Nat) cap')):=by
 obtain⟨hr,hg,hs⟩:=hu;have hR:=hw.lt;have T0:=h.T0;have Tl:=h.t.lt;have bl:GA P x P.g1:=AA (AA ⟨Za,rfl⟩);have g0:=h.c.lo _ bl;have gT:=h.tb _ bl;have b1:O1 P x P.g1:=AA ⟨Za,rfl⟩;have gA1:0<P.C1 o->¬gA=P.g1/\gA<T/\O1 P x gA:=λe=>by have a:=hA e;have b:O1 P x gA:=Az ⟨o,ho,a.1,a.2⟩;exact⟨λe2=>h.c.d.o.ap.ne o ho a.1 (a.2.symm.trans e2),h.tb _ (AA b),b⟩
 have gne:¬g'=P.g1:=by
  rcases hg with e|e;.rw[e.2];exact(gA1 e.1).1
  .have:=h.c.d.blt bl;omega
 have F:AB (λq=>q=R\/((0<P.C1 o/\q=gA)\/q=P.g1)) X (Y.setCell ⟨P.g1,o*7+6,none⟩ (.l ad' ((x.os o).hn+1:Nat) cap')):=(hf.mono (λq e=>by rcases e with e|e;exact AA e;exact Az (AA e))).setCell (p:=⟨P.g1,o*7+6,none⟩) (Az (Az rfl)) _;have F2:=(AB.refl (λq=>q=P.g1) Y).setCell (p:=⟨P.g1,o*7+6,none⟩) rfl (.l ad' ((x.os o).hn+1:Nat) cap');have far:∀q,GA P x q->¬q=P.g1->¬(0<P.C1 o/\q=gA)->¬(q=R\/((0<P.C1 o/\q=gA)\/q=P.g1)):=λq hq hn hm e=>by
  have l1:=h.c.lo q hq;rcases e with e|e|e;.omega
  .exact hm e
  .exact hn e
 obtain⟨c,r,ec⟩:=h.c.d.o.row Za;have r1:=(r.fr hf (λe=>by
  rcases e with e|e;.omega
  .exact(gA1 e.1).1 e.2.symm)).set (o:=o*7+6) Za (.l ad' ((x.os o).hn+1:Nat) cap');refine h.fin hw hf AW (λq e=>by rw[e.2];exact ks) g0 {x with os:=Cl x.os o {x.os o with hn:=(x.os o).hn+1,hs:=Cl (x.os o).hs (x.os o).hn s}} P.a1 P.a2 P.a3 d1 d2 d3 ?_ ⟨?_,?_,?_⟩ (UQ BG ⟨(BG.os o ho).k,(BG.os o ho).n,(BG.os o ho).t,?_,λi hi=>?_,(BG.os o ho).v⟩) hp
 .exact(h.t.fr hf (λe=>by
   rcases e with e|e;.omega
   .have:=(gA1 e.1).2.1;omega)).fr F2 Za
 .intro i hi;have hi':i<x.on:=hi;show∃b off ah ch,_/\_/\_/\DF _ _ _ (Cl x.os o _ i) _ _/\AK _ _ _ _ (Cl x.os o _ i).hn (Cl x.os o _ i).hs;by_cases e:i=o
  .subst e;rw[Bf];refine⟨P.g1,0,ad',cap',h.c.d.o.addr Za,Ar _,r1.lt,?_,λj hj=>?_⟩
   .rw[A6];refine OX (λf hf=>(r1.cell _ Za).trans (congrArg some ?_));unfold GR;have a:=ec i hi';rcases(YP f Za)with rfl|rfl|rfl|rfl|rfl|rfl|rfl;.rw[if_neg Za];exact a.1
    .rw[if_neg Za];exact a.2.1
    .rw[if_neg Za];exact a.2.2.1
    .rw[if_neg Za];exact a.2.2.2.1
    .rw[if_neg Za];exact a.2.2.2.2.1
    .rw[if_neg Za];exact a.2.2.2.2.2.1
    .rw[if_pos rfl];rfl
   .have hj':j<(x.os i).hn+1:=hj;have c0:0<cap':=by have:=hr.le;omega
    have gl:=(hr.room c0).lt;refine⟨g',0,hr.addr c0,Ar _,Aa gl F2.size,?_⟩;rw[A6];refine((F2.cell (p:=⟨g',j,none⟩) gl gne).trans (hr.cell j Za)).trans (congrArg some ?_);show Cp _ _ _ j=.s (Cl (x.os i).hs (x.os i).hn s j);by_cases e:j=(x.os i).hn
    .subst e;rw[Bf];exact if_neg Za
    .rw[BC _ _ e];exact if_pos Za
  .rw[BC _ _ e];refine⟨P.g1,0,P.A1 i,P.C1 i,h.c.d.o.addr Za,Ar _,r1.lt,?_,?_⟩;.rw[A6];refine OX (λf hf=>(r1.cell _ Za).trans (congrArg some ?_));unfold GR;rw[if_neg Za];exact Ma (ec i hi') hf
   .exact((h.c.d.o.hold i hi').frP F (λCF=>⟨far _ (AA (Az ⟨i,hi',CF,rfl⟩)) (h.c.d.o.ap.ne i hi' CF) (λe2=>e (h.c.d.o.ap.inj i o hi' ho CF (hA e2.1).1 (e2.2.trans (hA e2.1).2))),h.c.d.o.hlt i hi' CF⟩)).wide (λCF=>Aa (h.c.d.o.hlt i hi' CF) F.size)
 .exact(h.c.d.h.fr F (λq hq=>far q (Az (AA hq)) (λe=>h.c.d.d12 P.g1 b1 (e▸hq)) (λe=>h.c.d.d12 q (e.2▸(gA1 e.1).2.2) hq))).isIn (λ_ _=>Ar _)
 .exact(h.c.d.t.fr F (λq hq=>far q (Az (Az hq)) (λe=>h.c.d.d13 P.g1 b1 (e▸hq)) (λe=>h.c.d.d13 q (e.2▸(gA1 e.1).2.2) hq))).isIn (λ_=>Ar _)
 .show(((x.os o).hn+1:Nat):Int)<=_;omega
 .have hi':i<(x.os o).hn+1:=hi;show((Cl (x.os o).hs (x.os o).hn s i).size:Int)<=_;by_cases e:i=(x.os o).hn;.subst e;rw[Bf];omega
  .rw[BC _ _ e];exact(BG.os o ho).s i Za
end Go.Proofs.YtdknjmgdgnmhjaaGreat
