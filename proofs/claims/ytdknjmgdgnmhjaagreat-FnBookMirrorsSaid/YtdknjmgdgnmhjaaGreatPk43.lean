import Derived.Test.YtdknjmgdgnmhjaaGreatPk41
set_option maxRecDepth 100000
set_option maxHeartbeats 4000000
namespace Go.Proofs.YtdknjmgdgnmhjaaGreat
open Go.RowKit Go.Proofs.Tryz
variable {R gA cap p nn T g1 g2 d1 d2 d3 o h ch eh:Nat}{ad a3 ah bh:OA}{A:Array Value}{x:Bk}{y:Ob}{z:Ch}{W:World}{Q:Exit→Act→World→Prop}
def tv (k:Ti):List Value:=(vTl k)
theorem fg (k:Ti)(j:Nat)(h:j<5):(AV (tv k) j).oneCell'=true:=by exact Ui
theorem ar (y:Ob)(ah:OA)(ch:Nat)(j:Nat)(h:j<7):(AV (oc y ah ch) j).oneCell'=true:=by rcases(YP j Za)with rfl|rfl|rfl|rfl|rfl|rfl|rfl<;>rfl
theorem Rd.app{X Y:World}{d:Nat}{n:Nat}(hX:Rd X R ad n cap p)(hf:AB (λq=>0<d/\q=gA) X Y)(CF:¬gA=R)(hb:∀b off,ad=some ⟨b,off,none⟩->¬b=gA):Rd Y R ad n cap p:=by have nR:¬(0<d/\R=gA):=λe=>CF e.2.symm;refine⟨(hf.cell (p:=⟨R,0,none⟩) hX.lt nR).trans hX.c0,(hf.cell (p:=⟨R,1,none⟩) hX.lt nR).trans hX.c1,(hf.frozen (p:=⟨R,1,none⟩) hX.lt nR).trans hX.f1,Aa hX.lt hf.size,hX.n2,λi hi=>?_,λj s h=>hX.ns j s ((hf.cell (p:=⟨R,j,none⟩) hX.lt nR).symm.trans h)⟩;obtain⟨b,off,v,e1,e2,e3,e4,e5⟩:=hX.bt i hi;exact⟨b,off,v,e1,Aa e2 hf.size,e3,(hf.cell (p:=⟨b,off+i,none⟩) e2 (λe=>hb b off e1 e.2)).trans e4,e5⟩
structure SpT (W:World)(R T:Nat)(ad:OA)(x:Bk)(gA:Nat)(a3:OA)(d3:Nat):Prop where
 rw:Rw W a3 gA x.tn d3 5 (G5 x.ts)ne:¬gA=R
 nT:¬(T=R\/(0<d3/\T=gA))bt:∀b off,ad=some ⟨b,off,none⟩->¬b=gA
 tn:x.tn<=50
 lt:0<d3->gA<W.1.size
structure SpL (W:World)(R T:Nat)(ad:OA)(g1:Nat)(y:Ob)(gA:Nat)(ah:OA)(ch:Nat):Prop where
 rw:Rw W ah gA y.hn ch 1 (λj=>.s (y.hs j))ne:¬gA=R
 nT:¬(T=R\/(0<ch/\T=gA))n1:¬(g1=R\/(0<ch/\g1=gA))bt:∀b off,ad=some ⟨b,off,none⟩->¬b=gA
 hn:y.hn<=5
 lt:0<ch->gA<W.1.size
structure SpO (W:World)(R T:Nat)(ad:OA)(x:Bk)(g1 d1:Nat)(cA:Nat->Value):Prop where
 rw:Rw W (some ⟨g1,0,none⟩) g1 x.on d1 7 cA
 one:∀j,j<x.on*7->(cA j).oneCell'=true
 nT:¬(T=R\/(0<d1/\T=g1))bt:∀b off,ad=some ⟨b,off,none⟩->¬b=g1
 on:x.on<=100
def wP (R:Nat)(T:Nat)(x:Bk)(_g1 _g2:Nat)(a3:OA)(_d1 _d2 d3 _o _h:Nat)(_y:Ob)(_z:Ch)(_ah _bh:OA)(_ch _eh:Nat)(gA:Nat)(W:World)(i:Nat)(v:Value)(X:World):Prop:=match i with
 |0=>v=.p T 4
 |1=>v=.l a3 x.tn d3
 |2=>∃g:Nat,v=.l (some ⟨g,0,none⟩) 3 3/\W.1.size<=g/\g<X.1.size/\∀k,k<3->∃s:ByteArray,X.cell? ⟨g,k,none⟩=some (.s s)/\s.size<=1000
 |3=>v=.p R 0
 |4=>∃k:Nat,k<3/\v=.i k
 |5=>∃(g k:Nat)(s:ByteArray),v=.pointer (some ⟨g,k,none⟩)/\(W.1.size<=g/\g<X.1.size)/\X.cell? ⟨g,k,none⟩=some (.s s)/\True/\s.size<=1000
 |6=>∃s:ByteArray,v=.s s/\s.size<=1000
 |7=>∃k:Ti,v=.agg (vT k)/\k.c.size<=1000/\k.print.size<=1000
 |8=>∃(g:Nat)(k:Ti),v=.l (some ⟨g,0,none⟩) 1 1/\W.1.size<=g/\g<X.1.size/\(∀f,f<5->X.cell? ⟨g,f,none⟩=some (AV (tv k) f))/\k.c.size<=1000/\k.print.size<=1000
 |9=>∃(k:Ti)(ad':OA)(cap' g':Nat),v=.l ad' (x.tn+1) cap'/\Rw X ad' g' (x.tn+1) cap' 5 (Cp (G5 x.ts) (x.tn*5) (AV (tv k)))/\((0<d3/\g'=gA)\/W.1.size<=g')/\k.c.size<=1000/\k.print.size<=1000
 |10=>v=.p T 4
 |_=>True
theorem pd (hA:VR A R T o h)(hr:Rd W R ad nn cap p)(hp:p<=600000)(H:SC W R T x g1 g2 a3 d1 d2 d3 o h y z ah bh ch eh)(HA:SpT W R T ad x gA a3 d3)(hQ:∀(t:Nat->Value)(k:Ti)(ad':OA)(cap' g' pz:Nat)(X0:World),(Rw X0 ad' g' (x.tn+1) cap' 5 (Cp (G5 x.ts) (x.tn*5) (AV (tv k)))/\((0<d3/\g'=gA)\/W.1.size<=g')/\k.c.size<=1000/\k.print.size<=1000)->AB (λq=>q=R\/(0<d3/\q=gA)) W X0->p<=pz->pz<=p+11->Rd X0 R ad nn cap pz->Q .normal ⟨C9 (Lu 335 11 t (OT A)),[]⟩ (X0.setCell ⟨T,4,none⟩ (.l ad' (x.tn+1) cap'))):Code.wp prog (rg Tryz.f44 56) Q ⟨A,[]⟩ W:=by
 refine I2 hA 335 11 λf mk t0 h0 h5 h6 h7 Dg hm=>?_;simp only[Dg]at hQ;simp only[C9,Lu,h0,h5,h6,h7,Nat.reduceLeDiff,Nat.reduceLT,Nat.reduceAdd,Nat.reduceSub,if_true,if_false,CA]at hm;clear Dg h0 h5 h6 h7;have Le:=hr.lt;have On:∀q,(λq=>q=R\/(0<d3/\q=gA)) q->q<W.1.size:=λq e=>by exact xC
 refine JJ Zc 11 1 9 (λj=>match j with|_=>11) (λ_=>0) (λ_=>false) (λq=>q=R\/(0<d3/\q=gA)) mk t0 R ad nn cap p (wP R T x g1 g2 a3 d1 d2 d3 o h y z ah bh ch eh gA W) (λa X=>∃(t:Nat->Value)(k:Ti)(ad':OA)(cap' g' pz:Nat)(X0:World),a=⟨mk t,[]⟩/\X=(X0.setCell ⟨T,4,none⟩ (.l ad' (x.tn+1) cap'))/\(Rw X0 ad' g' (x.tn+1) cap' 5 (Cp (G5 x.ts) (x.tn*5) (AV (tv k)))/\((0<d3/\g'=gA)\/W.1.size<=g')/\k.c.size<=1000/\k.print.size<=1000)/\AB (λq=>q=R\/(0<d3/\q=gA)) W X0/\p<=pz/\pz<=p+11/\Rd X0 R ad nn cap pz) Zc Zc Zc Zc ?_ ?_ (AA rfl) rfl hr ?_ ?_ ?_ ?_;all_goals subst hm
 .intro i v X Z p' hi Nu h hF Lb hR hX;iterate 11 (rcases i with _|i;.first
    |exact h
    |(obtain⟨g,e,y1,y2,y3⟩:=h;exact⟨g,e,y1,Aa y2 hF.size,λk hk=>by obtain⟨i,y4,y5⟩:=y3 k hk;exact⟨i,(hF.cell (p:=⟨g,k,none⟩) y2 (λq=>by have:=On g q;omega)).trans y4,y5⟩⟩)
    |(obtain⟨g,k,s,e,y1,y2,y3,y4⟩:=h;exact⟨g,k,s,e,⟨y1.1,Aa y1.2 hF.size⟩,(hF.cell (p:=⟨g,k,none⟩) y1.2 (λq=>by have:=On g q;omega)).trans y2,y3,y4⟩)
    |(obtain⟨g,k,e,y1,y2,y3,y4⟩:=h;exact⟨g,k,e,y1,Aa y2 hF.size,λf hf=>(hF.cell (p:=⟨g,f,none⟩) y2 (λq=>by have:=On g q;omega)).trans (y3 f hf),y4⟩)
    |(exact absurd rfl Nu))
  omega
 .intro i v X Z p' hi h hF Lb hR hX;iterate 11 (rcases i with _|i;.first
    |exact h
    |(obtain⟨g,e,y1,y2,y3⟩:=h;exact⟨g,e,y1,Aa y2 hF.size,λk hk=>by obtain⟨i,y4,y5⟩:=y3 k hk;exact⟨i,(hF.cell (p:=⟨g,k,none⟩) y2 (λq=>by have q:g=R:=q;omega)).trans y4,y5⟩⟩)
    |(obtain⟨g,k,s,e,y1,y2,y3,y4⟩:=h;exact⟨g,k,s,e,⟨y1.1,Aa y1.2 hF.size⟩,(hF.cell (p:=⟨g,k,none⟩) y1.2 (λq=>by have q:g=R:=q;omega)).trans y2,y3,y4⟩)
    |(obtain⟨g,k,e,y1,y2,y3,y4⟩:=h;exact⟨g,k,e,y1,Aa y2 hF.size,λf hf=>(hF.cell (p:=⟨g,f,none⟩) y2 (λq=>by have q:g=R:=q;omega)).trans (y3 f hf),y4⟩)
    |(obtain⟨k,ad',cap',g',e,y1,y2,y3⟩:=h;exact⟨k,ad',cap',g',e,y1.fr hF (λh0 q=>by have q:g'=R:=q;rcases y2 with y2|y2;exact HA.ne (y2.2▸q);omega),y2,y3⟩))
  omega
 .intro i hi Nu t X K p' hb QP CO Dj AW hg hK;rcases(Acy i Za)with rfl|rfl|rfl|rfl|rfl|rfl|rfl|rfl|rfl|rfl|rfl;.exact Di
  .exact V_
  .have h:=hK (.l (some ⟨X.1.size,0,none⟩) 3 3) (X.alloc (.cells #[.s ⟨#[122,111,101]⟩,.s ⟨#[]⟩,.s ⟨#[97]⟩] 9)) p' A9 Za ⟨X.1.size,rfl,hb.size,Ze,λk hk=>by rw[Al X #[.s ⟨#[122,111,101]⟩,.s ⟨#[]⟩,.s ⟨#[97]⟩] 9 k];rcases(show k=0\/k=1\/k=2 by omega)with rfl|rfl|rfl;all_goals exact⟨_,rfl,Zb⟩⟩ (Aj Do) (AW.below Do);exact JC
  .exact Di
  .have AY:t 3=_:=hg 3 (AR rfl);exact Vb
  .obtain⟨g,eq2,y1,y2,y3⟩:=hg 2 (AR rfl);obtain⟨k,hk,eq4⟩:=hg 4 (AR rfl);obtain⟨s,y4,y5⟩:=y3 k hk;have h:=hK (.pointer (some ⟨g,k,none⟩)) X p' A9 Za ⟨g,k,s,rfl,⟨y1,y2⟩,y4,trivial,y5⟩ (AB.refl _ _) AW;exact ze
  .obtain⟨g,k,s,sO,y1,y2,y3,y4⟩:=hg 5 (AR rfl);have h:=hK (.s s) X p' A9 Za ⟨s,rfl,y4⟩ (AB.refl _ _) AW;refine Au rfl rfl ?_;clear hK hg;go_simp;simpa[AX,sO]using h
  .obtain⟨s6,kq,z6⟩:=hg 6 (AR rfl);have h:=hK (.agg #[.s s6,.i (1),.s ⟨#[49,50,51,52,53,54,55,56]⟩,.i 0,.i 0]) X p' A9 Za ⟨⟨s6,(1),⟨#[49,50,51,52,53,54,55,56]⟩,0,0⟩,rfl,z6,(by show(⟨#[49,50,51,52,53,54,55,56]⟩:ByteArray).size<=1000;decide)⟩ (AB.refl _ _) AW;exact cP
  .obtain⟨k,Y8,z1,z2⟩:=hg 7 (AR rfl);have h:=hK (.l (some ⟨X.1.size,0,none⟩) 1 1) (X.alloc (.cells (vT k) 132)) p' A9 Za ⟨X.1.size,k,rfl,hb.size,Ze,λf hf=>(AE.new (w:=X) (l:=tv k) (t:=132) Dx).cell f hf,z1,z2⟩ (Aj Do) (AW.below Do);refine Au rfl rfl ?_;clear hK hg;go_simp;simpa[AX,Y8]using h
  .exact absurd rfl Nu
  .exact Di
 .intro ll t X K p' hb CO Dj AW hg hK;obtain⟨g,k,eq8,y1,y2,y3,y4⟩:=hg 8 (AR rfl);have AY:t 1=_:=hg 1 (AR rfl);have RW:=HA.rw.fr hb (λh0=>HA.ne);obtain⟨ad',cap',g',Y,CZ,FW,Pg,hg'⟩:=It (P:=prog) X 34 34 132 5 56 _ underlying34 Gn Za Zc a3 gA x.tn d3 (G5 x.ts) RW (λj _=>Jl _ _) g (g+1) (some ⟨g,0,none⟩) 1 1 (AV (tv k)) ⟨λj hj=>⟨g,0,rfl,AG _,BE _,by rw[A6];exact y3 j hj⟩,λj hj=>fg k j hj⟩ Za (by have:=HA.tn;omega) (by have:=HA.tn;omega);have uR:AB (λq=>q=R\/(0<d3/\q=gA)) X Y:=Pg.mono (λq e=>Az e);have h:=hK (.l ad' (x.tn+1) cap') Y p' A9 Za ⟨k,ad',cap',g',rfl,FW,hg'.imp id (AJ hb.size),y4.1,y4.2⟩ uR (AW.app Pg HA.ne HA.bt);refine Au rfl rfl ?_;clear hK hg;refine DG (.tmp 336) (.tmp 343) 34 34 rfl _ _ _ _ Zba (by simpa[Act.eval,go_sem]using eq8) CZ ?_;exact Rk
 .intro t X K p' hb CO Dj AW hg hK;have AY:t 10=_:=hg 10 Za;obtain⟨k,ad',cap',g',eqm,FW,hg',z1,z2⟩:=hg 9 Za;have q:=(hb.cell (p:=⟨T,4,none⟩) H.lt HA.nT).trans (H.row.cell 4 Zb);have q2:=(hb.frozen (p:=⟨T,4,none⟩) H.lt HA.nT).trans (H.row.free _);simp only[AV,Ac,Ad]at q;exact d'
 .exact vz
def Vu (c:Nat->Value)(o:Nat)(j:Nat):Value:=if j<o*7 then c j else c (j+7)
theorem aW (w:World)(ty:TypeId)(g n cap o:Nat)(c:Nat->Value)(h:Rw w (some ⟨g,0,none⟩) g n cap 7 c)(h1:∀j,j<n*7->(c j).oneCell'=true)(ho:o<n)(a2:OA)(e2:Nat)(ha:0<n-(o+1)->a2=some ⟨g,(o+1)*7,none⟩)(hn:n<=100):∃Y,(Builtin.append_ #[23,23] ty #[.l (some ⟨g,0,none⟩) o cap,.l a2 (n-(o+1):Nat) e2]).run prog w=.ok (.l (some ⟨g,0,none⟩) (n-1:Nat) cap) Y/\Rw Y (some ⟨g,0,none⟩) g (n-1) cap 7 (Vu c o)/\AB (λq=>0<cap/\q=g) w Y:=by
 have Om:=h.le;have Nr:0<cap:=Za;have rm:=h.room Nr;obtain⟨i0,Fq,GH,C7,Fk⟩:=info_parts Eu;have hd:Cr w g (g+1) a2 ((n-(o+1))*7) (λj=>c ((o+1)*7+j)):=⟨λj hj=>⟨g,(o+1)*7,ha Za,AG _,BE _,h.cell _ Za⟩,λj hj=>h1 _ Za⟩;have CZ:=run_append_room_src (P:=prog) w 23 23 ty 52 i0 underlying23 Fq g 0 o cap (.l a2 (n-(o+1):Nat) e2) (n-(o+1)) (AN ((n-(o+1))*7) (λj=>c ((o+1)*7+j))) (by rw[C7];exact hd.src Za underlying23) Za (λj hj=>by rw[Bq]at hj;obtain⟨u,hu⟩:=rm.has (o*7+j) Za;rw[C7,show 0+o*7+j=o*7+j by omega,hu];rfl) (λj hj=>rm.free _);rw[C7,show 0+o*7=o*7 by omega,show o+(n-(o+1))=n-1 by omega]at CZ;have Cs:∀j,j<(n-(o+1))*7->(w.setCells g (o*7) (AN ((n-(o+1))*7) (λj=>c ((o+1)*7+j)))).cell? ⟨g,o*7+j,none⟩=some (c ((o+1)*7+j)):=λj hj=>by have:=DA g (AN ((n-(o+1))*7) (λj=>c ((o+1)*7+j))) (o*7) w (λj hj=>by rw[Bq]at hj;obtain⟨u,hu⟩:=rm.has (o*7+j) Za;rw[hu];rfl) j Zbq;rw[Dr]at this;exact this
 have Kq:∀j,(j<o*7\/o*7+(n-(o+1))*7<=j)->(w.setCells g (o*7) (AN ((n-(o+1))*7) (λj=>c ((o+1)*7+j)))).cell? ⟨g,j,none⟩=w.cell? ⟨g,j,none⟩:=λj hj=>CQ g _ (o*7) w ⟨g,j,none⟩ (λ_ _=>by rw[Bq];rcases hj with hj|hj;exact AA hj;exact Az hj);refine⟨_,CZ,⟨λ_=>rfl,Za,λ_=>⟨λj hj=>?_,λj=>by rw[DL];exact rm.free _,by rw[FC];exact rm.lt⟩,λj hj=>?_⟩,O6 (Gf g _ (o*7) w) (λk h1 h2=>⟨Nr,Za⟩)⟩
 .by_cases Qq:j<o*7\/o*7+(n-(o+1))*7<=j;.rw[Kq j Qq];exact rm.has j hj
  .obtain⟨q,rfl⟩:∃q,j=o*7+q:=⟨j-o*7,Za⟩;exact⟨_,Cs q Za⟩
 .unfold Vu;by_cases Qq:j<o*7;.rw[if_pos Qq,Kq j (AA Qq)];exact h.cell j Za
  .obtain⟨q,rfl⟩:∃q,j=o*7+q:=⟨j-o*7,Za⟩;rw[if_neg Qq,Cs q Za,show(o+1)*7+q=o*7+q+7 by omega]
def wN (_R:Nat)(T:Nat)(x:Bk)(g1 _g2:Nat)(_a3:OA)(d1 _d2 _d3 o _h:Nat)(_y:Ob)(_z:Ch)(_ah _bh:OA)(_ch _eh:Nat)(cA:Nat->Value)(_W:World)(i:Nat)(v:Value)(X:World):Prop:=match i with
 |0=>v=.p T 2
 |1=>v=.l (some ⟨g1,0,none⟩) x.on d1
 |2=>v=.i (o:Nat)
 |3=>v=.l (some ⟨g1,0,none⟩) o d1
 |4=>v=.p T 2
 |5=>v=.l (some ⟨g1,0,none⟩) x.on d1
 |6=>v=.i (o:Nat)
 |7=>v=.i ((o+1:Nat):Int)
 |8=>∃(a2:OA)(e2:Nat),v=.l a2 (x.on-(o+1):Nat) e2/\(0<x.on-(o+1)->a2=some ⟨g1,(o+1)*7,none⟩)
 |9=>v=.l (some ⟨g1,0,none⟩) (x.on-1:Nat) d1/\Rw X (some ⟨g1,0,none⟩) g1 (x.on-1) d1 7 (Vu cA o)
 |10=>v=.p T 2
 |_=>True
theorem mh{cA:Nat->Value}(hA:VR A R T o h)(hr:Rd W R ad nn cap p)(_hp:p<=600000)(H:SC W R T x g1 g2 a3 d1 d2 d3 o h y z ah bh ch eh)(HA:SpO W R T ad x g1 d1 cA)(hQ:∀(t:Nat->Value)(pz:Nat)(X0:World),(Rw X0 (some ⟨g1,0,none⟩) g1 (x.on-1) d1 7 (Vu cA o))->AB (λq=>q=R\/(0<d1/\q=g1)) W X0->p<=pz->pz<=p+11->Rd X0 R ad nn cap pz->Q .normal ⟨C9 (Lu 253 11 t (OT A)),[]⟩ (X0.setCell ⟨T,2,none⟩ (.l (some ⟨g1,0,none⟩) (x.on-1:Nat) d1))):Code.wp prog (rg Tryz.f44 44) Q ⟨A,[]⟩ W:=by
 refine I2 hA 253 11 λf mk t0 h0 h5 h6 h7 Dg hm=>?_;simp only[Dg]at hQ;simp only[C9,Lu,h0,h5,h6,h7,Nat.reduceLeDiff,Nat.reduceLT,Nat.reduceAdd,Nat.reduceSub,if_true,if_false,CA]at hm;clear Dg h0 h5 h6 h7;have Le:=hr.lt;have On:∀q,(λq=>q=R\/(0<d1/\q=g1)) q->q<W.1.size:=λq e=>by
  rcases e with e|e;.omega
  .have:=H.l1;omega
 refine JJ Zc 11 1 9 (λj=>match j with|_=>11) (λ_=>0) (λ_=>false) (λq=>q=R\/(0<d1/\q=g1)) mk t0 R ad nn cap p (wN R T x g1 g2 a3 d1 d2 d3 o h y z ah bh ch eh cA W) (λa X=>∃(t:Nat->Value)(pz:Nat)(X0:World),a=⟨mk t,[]⟩/\X=(X0.setCell ⟨T,2,none⟩ (.l (some ⟨g1,0,none⟩) (x.on-1:Nat) d1))/\(Rw X0 (some ⟨g1,0,none⟩) g1 (x.on-1) d1 7 (Vu cA o))/\AB (λq=>q=R\/(0<d1/\q=g1)) W X0/\p<=pz/\pz<=p+11/\Rd X0 R ad nn cap pz) Zc Zc Zc Zc ?_ ?_ (AA rfl) rfl hr ?_ ?_ ?_ ?_;all_goals subst hm
 .intro i v X Z p' hi Nu h hF Lb hR hX;iterate 11 (rcases i with _|i;.first|exact h|exact absurd rfl Nu)
  omega
 .intro i v X Z p' hi h hF Lb hR hX;iterate 11 (rcases i with _|i;.first|exact h|exact⟨h.1,h.2.fr hF (λh0 q=>H.n1 q)⟩)
  omega
 .intro i hi Nu t X K p' hb QP CO Dj AW hg hK;rcases(Acy i Za)with rfl|rfl|rfl|rfl|rfl|rfl|rfl|rfl|rfl|rfl|rfl;.exact Di
  .have AY:t 0=_:=hg 0 (AR rfl);exact iL
  .exact Di
  .have AY:t 1=_:=hg 1 (AR rfl);have Ff:t 2=_:=hg 2 (AR rfl);have Gc:=H.ho;have Om:=HA.rw.le;have h:=hK _ X p' A9 Za rfl (AB.refl _ _) AW;exact xn
  .exact Di
  .have AY:t 4=_:=hg 4 (AR rfl);exact iL
  .exact Di
  .have AY:t 6=_:=hg 6 (AR rfl);have Gc:=H.ho;have GJ:=HA.on;have hw:IntKind.i64.wrap ((o:Int)+1)=((o+1:Nat):Int):=by rw[AQ _ ⟨Za,Za⟩];omega
   have h:=hK _ X p' A9 Za rfl (AB.refl _ _) AW;exact xI
  .have AY:t 5=_:=hg 5 (AR rfl);have Ff:t 7=_:=hg 7 (AR rfl);have Gc:=H.ho;have Om:=HA.rw.le;have h:=hK (.l (if d1=o+1 then some ⟨g1,0,none⟩else some ⟨g1,(o+1)*7,none⟩) (x.on-(o+1):Nat) (d1-(o+1))) X p' A9 Za ⟨_,_,rfl,λh0=>if_neg Za⟩ (AB.refl _ _) AW;exact xn
  .exact absurd rfl Nu
  .exact Di
 .intro ll t X K p' hb CO Dj AW hg hK;obtain⟨a2,e2,eq8,y1⟩:=hg 8 (AR rfl);have AY:t 3=_:=hg 3 (AR rfl);have RW:=HA.rw.fr hb (λh0=>H.n1);obtain⟨Y,CZ,FW,Pg⟩:=aW X 23 g1 x.on d1 o cA RW HA.one H.ho a2 e2 y1 HA.on;have uR:AB (λq=>q=R\/(0<d1/\q=g1)) X Y:=Pg.mono (λq e=>Az e);have h:=hK (.l (some ⟨g1,0,none⟩) (x.on-1:Nat) d1) Y p' A9 Za ⟨rfl,FW⟩ uR (AW.app Pg H.n1 HA.bt);refine Au rfl rfl ?_;clear hK hg;refine DG (.tmp 256) (.tmp 261) 23 23 rfl _ _ _ _ Zba (by simpa[Act.eval,go_sem]using eq8) CZ ?_;exact Rk
 .intro t X K p' hb CO Dj AW hg hK;have AY:t 10=_:=hg 10 Za;obtain⟨eqm,FW⟩:=hg 9 Za;have q:=(hb.cell (p:=⟨T,2,none⟩) H.lt HA.nT).trans (H.row.cell 2 Zb);have q2:=(hb.frozen (p:=⟨T,2,none⟩) H.lt HA.nT).trans (H.row.free _);simp only[AV,Ac,Ad]at q;have h:=hK _ _ ⟨t,p',X,rfl,rfl,FW,hb,CO,Za,AW⟩;exact fO
 .rintro a X ⟨t,pz,X0,rfl,rfl,z2,z3,z4,z5,z6⟩;exact hQ t pz X0 z2 z3 z4 z5 z6
def yJ (R:Nat)(T:Nat)(x:Bk)(g1 _g2:Nat)(_a3:OA)(d1 _d2 _d3 o _h:Nat)(y:Ob)(_z:Ch)(ah _bh:OA)(ch _eh:Nat)(gA:Nat)(W:World)(i:Nat)(v:Value)(X:World):Prop:=match i with
 |0=>v=.p T 2
 |1=>v=.l (some ⟨g1,0,none⟩) x.on d1
 |2=>v=.i (o:Nat)
 |3=>v=.p T 2
 |4=>v=.l (some ⟨g1,0,none⟩) x.on d1
 |5=>v=.i (o:Nat)
 |6=>v=.pointer (some ⟨g1,o*7,none⟩)
 |7=>v=.pointer (some ⟨g1,o*7+6,none⟩)
 |8=>v=.l ah y.hn ch
 |9=>∃g:Nat,v=.l (some ⟨g,0,none⟩) 2 2/\W.1.size<=g/\g<X.1.size/\∀k,k<2->∃s:ByteArray,X.cell? ⟨g,k,none⟩=some (.s s)/\s.size<=1000
 |10=>v=.p R 0
 |11=>∃k:Nat,k<2/\v=.i k
 |12=>∃(g k:Nat)(s:ByteArray),v=.pointer (some ⟨g,k,none⟩)/\(W.1.size<=g/\g<X.1.size)/\X.cell? ⟨g,k,none⟩=some (.s s)/\True/\s.size<=1000
 |13=>∃s:ByteArray,v=.s s/\s.size<=1000
 |14=>∃(g:Nat)(s:ByteArray),v=.l (some ⟨g,0,none⟩) 1 1/\W.1.size<=g/\g<X.1.size/\X.cell? ⟨g,0,none⟩=some (.s s)/\s.size<=1000
 |15=>∃(s:ByteArray)(ad':OA)(cap' g':Nat),v=.l ad' (y.hn+1) cap'/\Rw X ad' g' (y.hn+1) cap' 1 (Cp (λj=>.s (y.hs j)) (y.hn*1) (λ_=>.s s))/\((0<ch/\g'=gA)\/W.1.size<=g')/\s.size<=1000
 |16=>v=.pointer (some ⟨g1,o*7,none⟩)
 |17=>v=.pointer (some ⟨g1,o*7+6,none⟩)
 |_=>True
theorem sh (hA:VR A R T o h)(hr:Rd W R ad nn cap p)(hp:p<=600000)(H:SC W R T x g1 g2 a3 d1 d2 d3 o h y z ah bh ch eh)(HA:SpL W R T ad g1 y gA ah ch)(hQ:∀(t:Nat->Value)(s:ByteArray)(ad':OA)(cap' g' pz:Nat)(X0:World),(Rw X0 ad' g' (y.hn+1) cap' 1 (Cp (λj=>.s (y.hs j)) (y.hn*1) (λ_=>.s s))/\((0<ch/\g'=gA)\/W.1.size<=g')/\s.size<=1000)->AB (λq=>q=R\/(0<ch/\q=gA)) W X0->p<=pz->pz<=p+18->Rd X0 R ad nn cap pz->Q .normal ⟨C9 (Lu 221 18 t (OT A)),[]⟩ (X0.setCell ⟨g1,o*7+6,none⟩ (.l ad' (y.hn+1) cap'))):Code.wp prog (rg Tryz.f44 40) Q ⟨A,[]⟩ W:=by
 refine I2 hA 221 18 λf mk t0 h0 h5 h6 h7 Dg hm=>?_;simp only[Dg]at hQ;simp only[C9,Lu,h0,h5,h6,h7,Nat.reduceLeDiff,Nat.reduceLT,Nat.reduceAdd,Nat.reduceSub,if_true,if_false,CA]at hm;clear Dg h0 h5 h6 h7;have Le:=hr.lt;have On:∀q,(λq=>q=R\/(0<ch/\q=gA)) q->q<W.1.size:=λq e=>by exact xC
 refine JJ Zc 18 1 15 (λj=>match j with|16=>17|_=>18) (λ_=>0) (λ_=>false) (λq=>q=R\/(0<ch/\q=gA)) mk t0 R ad nn cap p (yJ R T x g1 g2 a3 d1 d2 d3 o h y z ah bh ch eh gA W) (λa X=>∃(t:Nat->Value)(s:ByteArray)(ad':OA)(cap' g' pz:Nat)(X0:World),a=⟨mk t,[]⟩/\X=(X0.setCell ⟨g1,o*7+6,none⟩ (.l ad' (y.hn+1) cap'))/\(Rw X0 ad' g' (y.hn+1) cap' 1 (Cp (λj=>.s (y.hs j)) (y.hn*1) (λ_=>.s s))/\((0<ch/\g'=gA)\/W.1.size<=g')/\s.size<=1000)/\AB (λq=>q=R\/(0<ch/\q=gA)) W X0/\p<=pz/\pz<=p+18/\Rd X0 R ad nn cap pz) Zc Zc Zc Zc ?_ ?_ (AA rfl) rfl hr ?_ ?_ ?_ ?_;all_goals subst hm
 .intro i v X Z p' hi Nu h hF Lb hR hX;iterate 18 (rcases i with _|i;.first
    |exact h
    |(obtain⟨g,e,y1,y2,y3⟩:=h;exact⟨g,e,y1,Aa y2 hF.size,λk hk=>by obtain⟨i,y4,y5⟩:=y3 k hk;exact⟨i,(hF.cell (p:=⟨g,k,none⟩) y2 (λq=>by have:=On g q;omega)).trans y4,y5⟩⟩)
    |(obtain⟨g,k,s,e,y1,y2,y3,y4⟩:=h;exact⟨g,k,s,e,⟨y1.1,Aa y1.2 hF.size⟩,(hF.cell (p:=⟨g,k,none⟩) y1.2 (λq=>by have:=On g q;omega)).trans y2,y3,y4⟩)
    |(obtain⟨g,s,e,y1,y2,y3,y4⟩:=h;exact⟨g,s,e,y1,Aa y2 hF.size,(hF.cell (p:=⟨g,0,none⟩) y2 (λq=>by have:=On g q;omega)).trans y3,y4⟩)
    |(exact absurd rfl Nu))
  omega
 .intro i v X Z p' hi h hF Lb hR hX;iterate 18 (rcases i with _|i;.first
    |exact h
    |(obtain⟨g,e,y1,y2,y3⟩:=h;exact⟨g,e,y1,Aa y2 hF.size,λk hk=>by obtain⟨i,y4,y5⟩:=y3 k hk;exact⟨i,(hF.cell (p:=⟨g,k,none⟩) y2 (λq=>by have q:g=R:=q;omega)).trans y4,y5⟩⟩)
    |(obtain⟨g,k,s,e,y1,y2,y3,y4⟩:=h;exact⟨g,k,s,e,⟨y1.1,Aa y1.2 hF.size⟩,(hF.cell (p:=⟨g,k,none⟩) y1.2 (λq=>by have q:g=R:=q;omega)).trans y2,y3,y4⟩)
    |(obtain⟨g,s,e,y1,y2,y3,y4⟩:=h;exact⟨g,s,e,y1,Aa y2 hF.size,(hF.cell (p:=⟨g,0,none⟩) y2 (λq=>by have q:g=R:=q;omega)).trans y3,y4⟩)
    |(obtain⟨s,ad',cap',g',e,y1,y2,y3⟩:=h;exact⟨s,ad',cap',g',e,y1.fr hF (λh0 q=>by have q:g'=R:=q;rcases y2 with y2|y2;exact HA.ne (y2.2▸q);omega),y2,y3⟩))
  omega
 .intro i hi Nu t X K p' hb QP CO Dj AW hg hK;rcases(Ain i Za)with rfl|rfl|rfl|rfl|rfl|rfl|rfl|rfl|rfl|rfl|rfl|rfl|rfl|rfl|rfl|rfl|rfl|rfl;.exact Di
  .have AY:t 0=_:=hg 0 (AR rfl);exact iL
  .exact Di
  .exact Di
  .have AY:t 3=_:=hg 3 (AR rfl);exact iL
  .exact Di
  .exact XQ
  .exact MO
  .have AY:t 7=_:=hg 7 (AR rfl);have q:=(hb.cell (p:=⟨g1,o*7+6,none⟩) H.l1 HA.n1).trans (H.c1 6 Zb);exact ZG
  .have h:=hK (.l (some ⟨X.1.size,0,none⟩) 2 2) (X.alloc (.cells #[.s ⟨#[]⟩,.s ⟨#[122,122]⟩] 9)) p' A9 Za ⟨X.1.size,rfl,hb.size,Ze,λk hk=>by rw[Al X #[.s ⟨#[]⟩,.s ⟨#[122,122]⟩] 9 k];rcases(show k=0\/k=1 by omega)with rfl|rfl;all_goals exact⟨_,rfl,Zb⟩⟩ (Aj Do) (AW.below Do);exact JC
  .exact Di
  .have AY:t 10=_:=hg 10 (AR rfl);exact sj
  .obtain⟨g,pL,y1,y2,y3⟩:=hg 9 (AR rfl);obtain⟨k,hk,VX⟩:=hg 11 (AR rfl);obtain⟨s,y4,y5⟩:=y3 k hk;have h:=hK (.pointer (some ⟨g,k,none⟩)) X p' A9 Za ⟨g,k,s,rfl,⟨y1,y2⟩,y4,trivial,y5⟩ (AB.refl _ _) AW;exact r_
  .obtain⟨g,k,s,ZA,y1,y2,y3,y4⟩:=hg 12 (AR rfl);have h:=hK (.s s) X p' A9 Za ⟨s,rfl,y4⟩ (AB.refl _ _) AW;refine Au rfl rfl ?_;clear hK hg;go_simp;simpa[AX,ZA]using h
  .obtain⟨s,sZ,z1⟩:=hg 13 (AR rfl);have h:=hK (.l (some ⟨X.1.size,0,none⟩) 1 1) (X.alloc (.cells #[.s s] 9)) p' A9 Za ⟨X.1.size,s,rfl,hb.size,Ze,(AE.new (w:=X) (l:=[.s s]) (t:=9) Dx).cell 0 Ze,z1⟩ (Aj Do) (AW.below Do);refine Au rfl rfl ?_;clear hK hg;go_simp;simpa[AX,sZ]using h
  .exact absurd rfl Nu
  .exact aD
  .have AY:t 16=_:=hg 16 (AR rfl);exact MJ
 .intro ll t X K p' hb CO Dj AW hg hK;obtain⟨g,s,rS,y1,y2,y3,y4⟩:=hg 14 (AR rfl);have AY:t 8=_:=hg 8 (AR rfl);have RW:=HA.rw.fr hb (λh0=>HA.ne);obtain⟨ad',cap',g',Y,CZ,FW,Pg,hg'⟩:=It (P:=prog) X 50 50 9 1 16 _ underlying50 Gh Za Zc ah gA y.hn ch (λj=>.s (y.hs j)) RW (λj _=>rfl) g (g+1) (some ⟨g,0,none⟩) 1 1 (λ_=>.s s) ⟨λj hj=>⟨g,0,rfl,AG _,BE _,by rw[show 0+j=0 by omega];exact y3⟩,λj hj=>rfl⟩ Za (by have:=HA.hn;omega) (by have:=HA.hn;omega);have uR:AB (λq=>q=R\/(0<ch/\q=gA)) X Y:=Pg.mono (λq e=>Az e);have h:=hK (.l ad' (y.hn+1) cap') Y p' A9 Za ⟨s,ad',cap',g',rfl,FW,hg'.imp id (AJ hb.size),y4⟩ uR (AW.app Pg HA.ne HA.bt);refine Au rfl rfl ?_;clear hK hg;refine DG (.tmp 229) (.tmp 235) 50 50 rfl _ _ _ _ Zba (by simpa[Act.eval,go_sem]using rS) CZ ?_;exact Rk
 .intro t X K p' hb CO Dj AW hg hK;have AY:t 17=_:=hg 17 Za;obtain⟨s,ad',cap',g',eqm,FW,hg',z1⟩:=hg 15 Za;have q:=(hb.cell (p:=⟨g1,o*7+6,none⟩) H.l1 HA.n1).trans (H.c1 6 Zb);have q2:=(hb.frozen (p:=⟨g1,o*7+6,none⟩) H.l1 HA.n1).trans (H.f1 _);simp only[oc,AV,Ac,Ad]at q;have h:=hK _ _ ⟨t,s,ad',cap',g',p',X,rfl,rfl,⟨FW,hg',z1⟩,hb,CO,Za,AW⟩;exact fO
 .rintro a X ⟨t,s,ad',cap',g',pz,X0,rfl,rfl,z2,z3,z4,z5,z6⟩;exact hQ t s ad' cap' g' pz X0 z2 z3 z4 z5 z6
end Go.Proofs.YtdknjmgdgnmhjaaGreat
