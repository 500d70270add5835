import Derived.Test.YtdknjmgdgnmhjaaGreatPk21
set_option maxRecDepth 100000
namespace Go.Proofs.YtdknjmgdgnmhjaaGreat
open Go.RowKit Go.Maps Go.Proofs.Tryz
variable {P:Nat→Prop}{W X Y w:World}{z m s0 c1 c2 c3 d1 d2 R cap p0 p nn g1 g2 p':Nat}{c:Ca}{u0 v0 v1 v2 v3 v4:Value}{u1 u2 a1 a2 a3 ad:OA}{B B1:Bk}{x:Bu}{v:Wr}
theorem dS{P:Program}{id:Nat}{ops:Array Oper}{Q:Exit->Act->World->Prop}{a0:Act}(hm:P.follows .mixedOrders=true) (n:Nat)(mk:(Nat->Value)->Array Value) (t0:Nat->Value) (E:World->Prop) (G:Nat->Value->World->Prop) (Z:Nat->Nat->Prop) (ZZ:Nat->Prop)(hn:ops.size=n) (Fj:((List.range ops.size).all λi=>match ops[i]? with|some o=>o.after.all (λe=>!(Region.binds .any e)||decide (e.on<i))|none=>true)=true) (h0:a0=⟨mk t0,[]⟩) (hE:E W.drew) (hZ:∀i q,Z i q->ZZ q)(st:∀i j v X Y,i<n->j<n->¬i=j->E X->G j v X->AB (Z i) X Y->G j v Y)(sg:∀i,i<n->∀(t:Nat->Value) X K,AB ZZ W X->E X->(∀j,Ci ops i j->G j (t j) X)->(∀v Y,G i v Y->E Y->AB (Z i) X Y->K ⟨mk (AX t i v),[]⟩ Y)->wpOp P ops Q i K ⟨mk t,[]⟩ X)(G7:∀t X,AB ZZ W X->E X->(∀j,j<n->G j (t j) X)->Q .normal ⟨mk t,[]⟩ X):(Code.region id ops true).wp P Q a0 W:=by
 refine mr hm n mk t0 (λf t X=>AB ZZ W X/\E X/\∀i,i<n->f i=true->G i (t i) X) hn Fj h0 ?_ ?_ ?_;.intro f hf;exact⟨Aj ((Ap _ _).drew),hE,λi _ h=>by rw[hf]at h;cases h⟩
 .rintro i hi f t X K ⟨hb,hE',hG⟩ hfi hw hK;refine sg i hi t X K hb hE' (λj hj=>hG j ?_ (hw j hj)) (λv Y hv hEY Pg=>hK v Y (λg hgi cI=>⟨hb.trans (Pg.mono (λq h=>hZ i q h)),hEY,λj hj h=>?_⟩))
  .obtain⟨o,ho,e,he,YB,rfl⟩:=hj;have h1:=Bz.1 Fj i (by rw[hn];simpa using hi);simp only[ho]at h1;have h2:=(BO.1 h1) e he;rw[YB]at h2;have h3:e.on<i:=by simpa using h2
   omega
  .by_cases e:j=i;.subst e;rw[Cf];exact hv
   .rw[BP e];rw[cI j e]at h;exact st i j _ X Y hi hj (λq=>e q.symm) hE' (hG j hj h) Pg
 .rintro f t X hf ⟨hb,hE',hG⟩;exact G7 t X hb hE' (λj hj=>hG j hj (hf j hj))
theorem IC.fr (h:IC X z) (hf:AB P X Y) (hz:z<X.1.size) (hp:¬P z):IC Y z:=λj s e=>h j s (by rw[<-hf.cell (p:=⟨z,j,none⟩) hz hp];exact e)
structure Bo (X:World) (z m:Nat):Prop where
 row:∃c,AE X z m c
 no:IC X z
theorem Bo.lt (h:Bo X z m):z<X.1.size:=by obtain⟨c,r⟩:=h.row;exact r.lt
theorem Bo.fr (h:Bo X z m) (hf:AB P X Y) (hp:¬P z):Bo Y z m:=by obtain⟨c,r⟩:=h.row;exact⟨⟨c,r.fr hf hp⟩,h.no.fr hf r.lt hp⟩
theorem mq{g:Nat}{c:Nat->Value}{u1 u2:Value}(h:AE w g 3 c):AE (((w.setCell ⟨g,0,none⟩ u0).setCell ⟨g,1,none⟩ u1).setCell ⟨g,2,none⟩ u2) g 3 (AV [u0,u1,u2]):=by have r:=((h.set (o:=0) Za u0).set (o:=1) Za u1).set (o:=2) Za u2;refine⟨r.lt,r.free,λj hj=>(r.cell j hj).trans (congrArg some ?_)⟩;rcases(show j=0\/j=1\/j=2 by omega)with rfl|rfl|rfl<;>rfl
theorem fr3 (u0 u1 u2:Value):AB (λq=>q=z) w (((w.setCell ⟨z,0,none⟩ u0).setCell ⟨z,1,none⟩ u1).setCell ⟨z,2,none⟩ u2):=(((AB.refl (λq=>q=z) w).setCell (p:=⟨z,0,none⟩) rfl u0).setCell (p:=⟨z,1,none⟩) rfl u1).setCell (p:=⟨z,2,none⟩) rfl u2
theorem Bo.set5 (h:Bo w z 5) (h0:∀s,¬v0=.s s) (h1:∀s,¬v1=.s s) (h2:∀s,¬v2=.s s) (h3:∀s,¬v3=.s s) (h4:∀s,¬v4=.s s):Bo (((((w.setCell ⟨z,0,none⟩ v0).setCell ⟨z,1,none⟩ v1).setCell ⟨z,2,none⟩ v2).setCell ⟨z,3,none⟩ v3).setCell ⟨z,4,none⟩ v4) z 5:=by obtain⟨c,r⟩:=h.row;have r0:=r.set (o:=0) Za v0;have r1:=r0.set (o:=1) Za v1;have r2:=r1.set (o:=2) Za v2;have r3:=r2.set (o:=3) Za v3;exact⟨⟨_,gZ r⟩,((((h.no.set (r.cell 0 Za) h0).set (r0.cell 1 Za) h1).set (r1.cell 2 Za) h2).set (r2.cell 3 Za) h3).set (r3.cell 4 Za) h4⟩
theorem Bo.set3{u1 u2:Value}(h:Bo w z 3) (h0:∀s,¬u0=.s s) (h1:∀s,¬u1=.s s) (h2:∀s,¬u2=.s s):Bo (((w.setCell ⟨z,0,none⟩ u0).setCell ⟨z,1,none⟩ u1).setCell ⟨z,2,none⟩ u2) z 3:=by obtain⟨c,r⟩:=h.row;have r0:=r.set (o:=0) Za u0;have r1:=r0.set (o:=1) Za u1;exact⟨⟨_,mq r⟩,((h.no.set (r.cell 0 Za) h0).set (r0.cell 1 Za) h1).set (r1.cell 2 Za) h2⟩
theorem Uc{Q:Ending->World->Prop}{tmps:Array Value}{A B:Nat}{u1 u2:Value}(hr:AE W A 5 (AV [v0,v1,v2,v3,v4])) (hs:AE W B 3 (AV [u0,u1,u2])) (h4:tmps[4]?.getD undef=.p A 0) (h5:tmps[5]?.getD undef=.p B 0) (hQ:Q (.returned (.tuple #[.agg #[v0,v1,v2,v3,v4],.agg #[u0,u1,u2]])) W):bodyPost prog Tryz.f55 Q .ret ⟨tmps,[]⟩ W:=by obtain⟨c0,c1,c2,c3,c4⟩:=JQ hr;obtain⟨e0,e1,e2⟩:=CT3 hs;exact bodyPost_ret (v:=.tuple #[.agg #[v0,v1,v2,v3,v4],.agg #[u0,u1,u2]]) (by simp only[results,results55];simp[go_sem,h4,h5,c0,c1,c2,c3,c4,e0,e1,e2]) rfl hQ
def SdS (S:Sa) (Y:Bk) (w:World) (e:Ending) (w':World):Prop:=Below w.1.size w w'/\∃(a1 a2 a3:OA) (c1 c2 c3:Nat),e=.returned (.tuple #[.agg (vB Y a1 a2 a3 c1 c2 c3),.agg (vS S)])/\BL w' 0 w'.1.size Y a1 a2 a3/\Kw w' Y.tn a3 c3
structure A8 (W:World) (s0:Nat) (B:Bk) (c:Ca) (a1 a2 a3:OA) (c1 c2 c3:Nat) (u1 u2:OA) (d1 d2:Nat):Prop where
 bk:GB W s0 (JR B a1 a2 a3 c1 c2 c3)ca:GB W (s0+1) (vCl c u1 u2 d1 d2)an:Bo W (s0+1+1) 5
 sd:Bo W (s0+1+1+1) 3
 bin:BL W 0 s0 B a1 a2 a3
 uin:IX W 0 s0 c.bu u1 u2
theorem A8.lt (h:A8 W s0 B c a1 a2 a3 c1 c2 c3 u1 u2 d1 d2):s0+1+1+1<W.1.size:=h.sd.lt
theorem A8.below{W':World}(h:A8 W s0 B c a1 a2 a3 c1 c2 c3 u1 u2 d1 d2) (hb:Below W.1.size W W'):A8 W' s0 B c a1 a2 a3 c1 c2 c3 u1 u2 d1 d2:=by have hz:=h.lt;exact⟨h.bk.below hb Za,h.ca.below hb Za,h.an.fr (Aj (P:=λ_=>False) hb) (λq=>q),h.sd.fr (Aj (P:=λ_=>False) hb) (λq=>q),h.bin.below hb Za,h.uin.below hb Za⟩
theorem bC (w:World) (B:Bk) (c:Ca) (a1 a2 a3:OA) (c1 c2 c3:Nat) (u1 u2:OA) (d1 d2:Nat) (hb:BL w 0 w.1.size B a1 a2 a3) (hu:IX w 0 w.1.size c.bu u1 u2):A8 ((((w.alloc (.cells (vB B a1 a2 a3 c1 c2 c3) 36)).alloc (.cells (vC c u1 u2 d1 d2) 121)).alloc (.cells #[.i 0,.i 0,.l none 0 0,.l none 0 0,.l none 0 0] 36)).alloc (.cells #[.i 0,.i 0,.bool false] 112)) w.1.size B c a1 a2 a3 c1 c2 c3 u1 u2 d1 d2/\Below w.1.size w ((((w.alloc (.cells (vB B a1 a2 a3 c1 c2 c3) 36)).alloc (.cells (vC c u1 u2 d1 d2) 121)).alloc (.cells #[.i 0,.i 0,.l none 0 0,.l none 0 0,.l none 0 0] 36)).alloc (.cells #[.i 0,.i 0,.bool false] 112)):=by
 have hB:Below w.1.size w ((((w.alloc (.cells (vB B a1 a2 a3 c1 c2 c3) 36)).alloc (.cells (vC c u1 u2 d1 d2) 121)).alloc (.cells #[.i 0,.i 0,.l none 0 0,.l none 0 0,.l none 0 0] 36)).alloc (.cells #[.i 0,.i 0,.bool false] 112)):=((((Ap _ _).alloc A9 _).alloc Ze _).alloc Zd _).alloc Zd _;have n4:∀j,((((w.alloc (.cells (vB B a1 a2 a3 c1 c2 c3) 36)).alloc (.cells (vC c u1 u2 d1 d2) 121)).alloc (.cells #[.i 0,.i 0,.l none 0 0,.l none 0 0,.l none 0 0] 36)).alloc (.cells #[.i 0,.i 0,.bool false] 112)).cell? ⟨w.1.size+1+1+1,j,none⟩=(#[.i 0,.i 0,.bool false]:Array Value)[j]?:=λj=>by have:=Al (((w.alloc (.cells (vB B a1 a2 a3 c1 c2 c3) 36)).alloc (.cells (vC c u1 u2 d1 d2) 121)).alloc (.cells #[.i 0,.i 0,.l none 0 0,.l none 0 0,.l none 0 0] 36)) #[.i 0,.i 0,.bool false] 112 j;simpa using this
 have p3:∀b j:Nat,b<w.1.size+1+1+1->((((w.alloc (.cells (vB B a1 a2 a3 c1 c2 c3) 36)).alloc (.cells (vC c u1 u2 d1 d2) 121)).alloc (.cells #[.i 0,.i 0,.l none 0 0,.l none 0 0,.l none 0 0] 36)).alloc (.cells #[.i 0,.i 0,.bool false] 112)).cell? ⟨b,j,none⟩=(((w.alloc (.cells (vB B a1 a2 a3 c1 c2 c3) 36)).alloc (.cells (vC c u1 u2 d1 d2) 121)).alloc (.cells #[.i 0,.i 0,.l none 0 0,.l none 0 0,.l none 0 0] 36)).cell? ⟨b,j,none⟩:=λb j hp=>by rw[At _ _ _ (by simpa using hp)]
 have n3:∀j,((((w.alloc (.cells (vB B a1 a2 a3 c1 c2 c3) 36)).alloc (.cells (vC c u1 u2 d1 d2) 121)).alloc (.cells #[.i 0,.i 0,.l none 0 0,.l none 0 0,.l none 0 0] 36)).alloc (.cells #[.i 0,.i 0,.bool false] 112)).cell? ⟨w.1.size+1+1,j,none⟩=(#[.i 0,.i 0,.l none 0 0,.l none 0 0,.l none 0 0]:Array Value)[j]?:=λj=>by rw[p3 _ _ Za];have:=Al ((w.alloc (.cells (vB B a1 a2 a3 c1 c2 c3) 36)).alloc (.cells (vC c u1 u2 d1 d2) 121)) #[.i 0,.i 0,.l none 0 0,.l none 0 0,.l none 0 0] 36 j;simpa using this
 have n2:∀j,((((w.alloc (.cells (vB B a1 a2 a3 c1 c2 c3) 36)).alloc (.cells (vC c u1 u2 d1 d2) 121)).alloc (.cells #[.i 0,.i 0,.l none 0 0,.l none 0 0,.l none 0 0] 36)).alloc (.cells #[.i 0,.i 0,.bool false] 112)).cell? ⟨w.1.size+1,j,none⟩=((vC c u1 u2 d1 d2):Array Value)[j]?:=λj=>by rw[p3 _ _ Za,At _ _ _ Ze];have:=Al (w.alloc (.cells (vB B a1 a2 a3 c1 c2 c3) 36)) (vC c u1 u2 d1 d2) 121 j;simp
 have n1:∀j,((((w.alloc (.cells (vB B a1 a2 a3 c1 c2 c3) 36)).alloc (.cells (vC c u1 u2 d1 d2) 121)).alloc (.cells #[.i 0,.i 0,.l none 0 0,.l none 0 0,.l none 0 0] 36)).alloc (.cells #[.i 0,.i 0,.bool false] 112)).cell? ⟨w.1.size,j,none⟩=((vB B a1 a2 a3 c1 c2 c3):Array Value)[j]?:=λj=>by rw[p3 _ _ Za,At _ _ _ Zd,At _ _ _ Ze];exact Al w (vB B a1 a2 a3 c1 c2 c3) 36 j
 refine⟨⟨λj hj=>?_,λj hj=>?_,⟨⟨_,AE.below (AE.new (w:=((w.alloc (.cells (vB B a1 a2 a3 c1 c2 c3) 36)).alloc (.cells (vC c u1 u2 d1 d2) 121))) (l:=[.i 0,.i 0,.l none 0 0,.l none 0 0,.l none 0 0]) (t:=36) Dx) Do Ze|>λr=>by simpa using r⟩,λj s e=>?_⟩,⟨⟨_,by have r:=AE.new (w:=(((w.alloc (.cells (vB B a1 a2 a3 c1 c2 c3) 36)).alloc (.cells (vC c u1 u2 d1 d2) 121)).alloc (.cells #[.i 0,.i 0,.l none 0 0,.l none 0 0,.l none 0 0] 36))) (l:=[.i 0,.i 0,.bool false]) (t:=112) Dx;simpa using r⟩,λj s e=>?_⟩,hb.below hB A9,hu.below hB A9⟩,hB⟩;.rw[n1 j];exact Z_
 .rw[n2 j];rcases(show j=0\/j=1\/j=2\/j=3 by simp at hj;omega)with rfl|rfl|rfl|rfl<;>rfl
 .rw[n3]at e;match j,e with
  |0,e=>cases e
  |1,e=>cases e
  |2,e=>cases e
  |3,e=>cases e
  |4,e=>cases e
  |n+5,e=>simp at e
 .rw[n4]at e;match j,e with
  |0,e=>cases e
  |1,e=>cases e
  |2,e=>cases e
  |n+3,e=>simp at e
theorem A8.done (h:A8 W s0 B c a1 a2 a3 c1 c2 c3 u1 u2 d1 d2) (hw:Below w.1.size w W) (hs:w.1.size=s0) (v0 v1 v2 v3 v4 u0 u1 u2:Value):AE ((((((((W.setCell ⟨s0+1+1,0,none⟩ v0).setCell ⟨s0+1+1,1,none⟩ v1).setCell ⟨s0+1+1,2,none⟩ v2).setCell ⟨s0+1+1,3,none⟩ v3).setCell ⟨s0+1+1,4,none⟩ v4).setCell ⟨s0+1+1+1,0,none⟩ u0).setCell ⟨s0+1+1+1,1,none⟩ u1).setCell ⟨s0+1+1+1,2,none⟩ u2) (s0+1+1) 5 (AV [v0,v1,v2,v3,v4])/\AE ((((((((W.setCell ⟨s0+1+1,0,none⟩ v0).setCell ⟨s0+1+1,1,none⟩ v1).setCell ⟨s0+1+1,2,none⟩ v2).setCell ⟨s0+1+1,3,none⟩ v3).setCell ⟨s0+1+1,4,none⟩ v4).setCell ⟨s0+1+1+1,0,none⟩ u0).setCell ⟨s0+1+1+1,1,none⟩ u1).setCell ⟨s0+1+1+1,2,none⟩ u2) (s0+1+1+1) 3 (AV [u0,u1,u2])/\Below w.1.size w ((((((((W.setCell ⟨s0+1+1,0,none⟩ v0).setCell ⟨s0+1+1,1,none⟩ v1).setCell ⟨s0+1+1,2,none⟩ v2).setCell ⟨s0+1+1,3,none⟩ v3).setCell ⟨s0+1+1,4,none⟩ v4).setCell ⟨s0+1+1+1,0,none⟩ u0).setCell ⟨s0+1+1+1,1,none⟩ u1).setCell ⟨s0+1+1+1,2,none⟩ u2)/\(∀{X:Bk}{b1 b2 b3:OA},BL W 0 s0 X b1 b2 b3->BL ((((((((W.setCell ⟨s0+1+1,0,none⟩ v0).setCell ⟨s0+1+1,1,none⟩ v1).setCell ⟨s0+1+1,2,none⟩ v2).setCell ⟨s0+1+1,3,none⟩ v3).setCell ⟨s0+1+1,4,none⟩ v4).setCell ⟨s0+1+1+1,0,none⟩ u0).setCell ⟨s0+1+1+1,1,none⟩ u1).setCell ⟨s0+1+1+1,2,none⟩ u2) 0 ((((((((W.setCell ⟨s0+1+1,0,none⟩ v0).setCell ⟨s0+1+1,1,none⟩ v1).setCell ⟨s0+1+1,2,none⟩ v2).setCell ⟨s0+1+1,3,none⟩ v3).setCell ⟨s0+1+1,4,none⟩ v4).setCell ⟨s0+1+1+1,0,none⟩ u0).setCell ⟨s0+1+1+1,1,none⟩ u1).setCell ⟨s0+1+1+1,2,none⟩ u2).1.size X b1 b2 b3):=by obtain⟨c5,r5⟩:=h.an.row;obtain⟨c3',r3⟩:=h.sd.row;have F5:=fr5 (w:=W) (z:=s0+1+1) v0 v1 v2 v3 v4;have F3:=fr3 (w:=(((((W.setCell ⟨s0+1+1,0,none⟩ v0).setCell ⟨s0+1+1,1,none⟩ v1).setCell ⟨s0+1+1,2,none⟩ v2).setCell ⟨s0+1+1,3,none⟩ v3).setCell ⟨s0+1+1,4,none⟩ v4)) (z:=s0+1+1+1) u0 u1 u2;have hz:=hw.size;have B5:Below s0 W ((((((((W.setCell ⟨s0+1+1,0,none⟩ v0).setCell ⟨s0+1+1,1,none⟩ v1).setCell ⟨s0+1+1,2,none⟩ v2).setCell ⟨s0+1+1,3,none⟩ v3).setCell ⟨s0+1+1,4,none⟩ v4).setCell ⟨s0+1+1+1,0,none⟩ u0).setCell ⟨s0+1+1+1,1,none⟩ u1).setCell ⟨s0+1+1+1,2,none⟩ u2):=(F5.below (λq hq e=>by have e':q=s0+1+1:=e;omega) Za).trans (F3.below (λq hq e=>by have e':q=s0+1+1+1:=e;omega) Zbi);exact⟨(gZ r5).fr F3 (λe=>by have e':s0+1+1=s0+1+1+1:=e;omega),mq (r3.fr F5 (λe=>by have e':s0+1+1+1=s0+1+1:=e;omega)),by subst hs;exact hw.trans B5,λ{X b1 b2 b3} hX=>(hX.below B5 A9).upTo Zbi⟩
theorem Rd.keep{n:Nat}(hW:Rd w R ad n cap p0) (hX:Rd X R ad n cap p) (hf:AB (λq=>q=R) w Y) (hx:AB (λq=>¬q=R) X Y):Rd Y R ad n cap p:=by have e:∀j,Y.cell? ⟨R,j,none⟩=X.cell? ⟨R,j,none⟩:=λj=>hx.cell (p:=⟨R,j,none⟩) hX.lt (λh=>h rfl);refine⟨(e 0).trans hX.c0,(e 1).trans hX.c1,(hx.frozen (p:=⟨R,1,none⟩) hX.lt (λh=>h rfl)).trans hX.f1,Aa hX.lt hx.size,hX.n2,λi hi=>?_,λj s h=>hX.ns j s ((e j).symm.trans h)⟩;obtain⟨b,off,v,h1,h2,h3,h4,h5,h6⟩:=hW.bt i hi;exact⟨b,off,v,h1,Aa h2 hf.size,h3,(hf.cell (p:=⟨b,off+i,none⟩) h2 h3).trans h4,h5,h6⟩
structure WtI (v:Wt):Prop where
 fit:s_ v
 v1:v.t<=9223372036854775807
structure aA (x:Bu):Prop where
 w:x.wn<=100
 r:x.rn<=100
 ws:∀i,i<x.wn->WtI (x.ws i)rs:∀i,i<x.rn->aE (x.rs i)
theorem aA.fit (h:aA x):MM x:=⟨by have:=h.w;omega,by have:=h.r;omega,λi hi=>(h.ws i hi).fit,λi hi=>(h.rs i hi).fit⟩
theorem aA.int (h:aA x):TF x:=⟨λi hi=>(h.ws i hi).v1,λi hi=>(h.rs i hi).s1⟩
def wK (x:Bu) (v:Wt):Bu:=⟨x.wn+1,QW x.ws x.wn v,x.rn,x.rs⟩
def cN (x:Bu) (v:Wr):Bu:=⟨x.wn,x.ws,x.rn+1,QW x.rs x.rn v⟩
theorem aA.addT{v:Wt}(h:aA x) (hv:WtI v) (hn:x.wn<100):aA (wK x v):=⟨hn,h.r,λi hi=>by
 show WtI (if i<x.wn then x.ws i else v);split;.exact h.ws i ‹_›
 .exact hv,h.rs⟩
theorem aA.addR (h:aA x) (hv:aE v) (hn:x.rn<100):aA (cN x v):=⟨h.w,hn,h.ws,λi hi=>by
 show aE (if i<x.rn then x.rs i else v);split;.exact h.rs i ‹_›
 .exact hv⟩
structure SA (w:World) (B:Bk) (R:Nat) (ad:OA) (nn cap p:Nat) (a1 a2 a3:OA) (c1 c2 c3:Nat) (x:Bu) (u1 u2:OA) (d1 d2 g1 g2:Nat) (X:World):Prop where
 f:AB (λq=>q=R) w X
 r:Rd X R ad nn cap p
 s:AE X w.1.size 5 (AV (JR B a1 a2 a3 c1 c2 c3))a:AE X (w.1.size+1) 2 (AV [.l none 0 0,.l none 0 0])u:AE X (w.1.size+1+1) 2 (AV (vUl x u1 u2 d1 d2))w1:Rw X u1 g1 x.wn d1 3 (qo x.ws)w2:Rw X u2 g2 x.rn d2 6 (Qj x.rs)h1:0<d1->w.1.size+1+1+1<=g1
 h2:0<d2->w.1.size+1+1+1<=g2/\SZ X g2 (x.rn*6)ne:0<d1->0<d2->¬g1=g2
 i:aA x
 un:IC X (w.1.size+1+1)
theorem SA.fr (h:SA w B R ad nn cap p a1 a2 a3 c1 c2 c3 x u1 u2 d1 d2 g1 g2 X) (hw:Rd w R ad nn cap p0) (hf:AB P X Y) (hP:∀q,q<w.1.size+1+1+1->P q->q=R) (hP1:0<d1->¬P g1) (hP2:0<d2->¬P g2) (hr:Rd Y R ad nn cap p'):SA w B R ad nn cap p' a1 a2 a3 c1 c2 c3 x u1 u2 d1 d2 g1 g2 Y:=by have hl:=h.u.lt;have hR:=hw.lt;have no:∀q,q<w.1.size+1+1+1->¬q=R->¬P q:=λq h1 h2 h3=>h2 (hP q h1 h3);refine⟨⟨hf.os.trans h.f.os,hf.tape.trans h.f.tape,hf.output.trans h.f.output,AJ h.f.size hf.size,λk hk hn=>(hf.block k (Aa hk h.f.size) (no k Za hn)).trans (h.f.block k hk hn)⟩,hr,h.s.fr hf (no _ Za Za),h.a.fr hf (no _ Za Za),h.u.fr hf (no _ Za Za),h.w1.fr hf hP1,h.w2.fr hf hP2,h.h1,λh0=>⟨(h.h2 h0).1,(h.h2 h0).2.fr hf (hP2 h0) (h.w2.room h0).lt⟩,h.ne,h.i,h.un.fr hf hl (no _ Za Za)⟩
theorem SA.pick (h:SA w B R ad nn cap p a1 a2 a3 c1 c2 c3 x u1 u2 d1 d2 g1 g2 X) (hw:Rd w R ad nn cap p0) (hf:AB (λq=>q=R) X Y) (hr:Rd Y R ad nn cap p'):SA w B R ad nn cap p' a1 a2 a3 c1 c2 c3 x u1 u2 d1 d2 g1 g2 Y:=by have hR:=hw.lt;exact h.fr hw hf (λ_ _ e=>e) (λh0 e=>by have:=h.h1 h0;omega) (λh0 e=>by have:=(h.h2 h0).1;omega) hr
theorem SA.below (h:SA w B R ad nn cap p a1 a2 a3 c1 c2 c3 x u1 u2 d1 d2 g1 g2 X) (hw:Rd w R ad nn cap p0) (hb:Below X.1.size X Y):SA w B R ad nn cap p a1 a2 a3 c1 c2 c3 x u1 u2 d1 d2 g1 g2 Y:=h.pick hw (Aj hb) (h.r.below hb)
theorem SA.box (h:SA w B R ad nn cap p a1 a2 a3 c1 c2 c3 x u1 u2 d1 d2 g1 g2 X) (hw:Rd w R ad nn cap p0) (hf:AB (λq=>q=z) X Y) (hz:w.1.size+1+1+1<=z) (z1:0<d1->¬z=g1) (z2:0<d2->¬z=g2):SA w B R ad nn cap p a1 a2 a3 c1 c2 c3 x u1 u2 d1 d2 g1 g2 Y:=by have hR:=hw.lt;have gG:AB (λq=>q=R) w Y:=⟨hf.os.trans h.f.os,hf.tape.trans h.f.tape,hf.output.trans h.f.output,AJ h.f.size hf.size,λk hk hn=>(hf.block k (Aa hk h.f.size) Za).trans (h.f.block k hk hn)⟩;exact h.fr hw hf (λq h1 h2=>by omega) (λh0 e=>z1 h0 e.symm) (λh0 e=>z2 h0 e.symm) (hw.keep h.r gG (hf.mono (λk hk e=>by omega)))
theorem SA.addT{v:Wt}{u1':OA}{d1' g1':Nat}(h:SA w B R ad nn cap p a1 a2 a3 c1 c2 c3 x u1 u2 d1 d2 g1 g2 X) (hw:Rd w R ad nn cap p0) (hf:AB (λq=>0<d1/\q=g1) X Y) (hr:Rw Y u1' g1' (x.wn+1) d1' 3 (Cp (qo x.ws) (x.wn*3) (AV (fL v)))) (hg:(0<d1/\g1'=g1)\/X.1.size<=g1') (hv:WtI v) (hn:x.wn<100):SA w B R ad nn cap p a1 a2 a3 c1 c2 c3 (wK x v) u1' u2 d1' d2 g1' g2 (Y.setCell ⟨w.1.size+1+1,0,none⟩ (.l u1' (x.wn+1) d1')):=by
 have hR:=hw.lt;have hl:=h.u.lt;have Dq:∀h0:0<d2,g2<X.1.size:=λh0=>(h.w2.room h0).lt;have f1:AB (λq=>q=R) w Y:=⟨hf.os.trans h.f.os,hf.tape.trans h.f.tape,hf.output.trans h.f.output,AJ h.f.size hf.size,λk hk hn=>(hf.block k (Aa hk h.f.size) (λe=>by have:=h.h1 e.1;omega)).trans (h.f.block k hk hn)⟩;have r1:Rd Y R ad nn cap p:=hw.keep h.r f1 (hf.mono (λk hk e=>by have:=h.h1 hk.1;omega));have F:=(AB.refl (λq=>q=w.1.size+1+1) Y).setCell (p:=⟨w.1.size+1+1,0,none⟩) rfl (.l u1' (x.wn+1) d1');have f2:=f1.far (z:=w.1.size+1+1) Za 0 (.l u1' (x.wn+1) d1');have S:=h.s.fr hf (λe=>by have:=h.h1 e.1;omega);have A:=h.a.fr hf (λe=>by have:=h.h1 e.1;omega);have U:=h.u.fr hf (λe=>by have:=h.h1 e.1;omega);have W2:=h.w2.fr hf (λh0 e=>h.ne e.1 h0 e.2.symm);have gl:0<d1'->w.1.size+1+1+1<=g1':=λ_=>by
  rcases hg with⟨h0,e⟩|e;.have:=h.h1 h0;omega
  .omega
 refine⟨f2,hw.far r1 Za _ _,S.fr F Za,A.fr F Za,(U.set (o:=0) Za _).congr (λj hj=>?_),⟨hr.addr,hr.le,λh0=>(hr.fr F (λh0=>by have:=gl h0;omega)).room h0,λj hj=>by show _=some (qo (QW x.ws x.wn v) j);rw[<-Ac0 x.ws x.wn v j hj];exact(hr.fr F (λh0=>by have:=gl h0;omega)).cell j hj⟩,W2.fr F (λh0=>by have:=(h.h2 h0).1;omega),gl,λh0=>⟨(h.h2 h0).1,((h.h2 h0).2.fr hf (λe=>h.ne e.1 h0 e.2.symm) (Dq h0)).fr F (by have:=(h.h2 h0).1;omega) (W2.room h0).lt⟩,λ_ h0=>?_,h.i.addT hv hn,(h.un.fr hf hl (λe=>by have:=h.h1 e.1;omega)).set (U.cell 0 Zb) (λs e=>by cases e)⟩;.rcases(show j=0\/j=1 by omega)with rfl|rfl<;>rfl
 .rcases hg with⟨h1,e⟩|e;.rw[e];exact h.ne h1 h0
  .have:=Dq h0;omega
theorem SA.addR{pB:OA}{Su YJ:Nat}(h:SA w B R ad nn cap p a1 a2 a3 c1 c2 c3 x u1 u2 d1 d2 g1 g2 X) (hw:Rd w R ad nn cap p0) (hf:AB (λq=>0<d2/\q=g2) X Y) (hr:Rw Y pB YJ (x.rn+1) Su 6 (Qj (QW x.rs x.rn v))) (hp:SZ Y YJ ((x.rn+1)*6)) (hg:(0<d2/\YJ=g2)\/X.1.size<=YJ) (hv:aE v) (hn:x.rn<100):SA w B R ad nn cap p a1 a2 a3 c1 c2 c3 (cN x v) u1 pB d1 Su g1 YJ (Y.setCell ⟨w.1.size+1+1,1,none⟩ (.l pB (x.rn+1) Su)):=by
 have hR:=hw.lt;have hl:=h.u.lt;have Lg:∀h0:0<d1,g1<X.1.size:=λh0=>(h.w1.room h0).lt;have f1:AB (λq=>q=R) w Y:=⟨hf.os.trans h.f.os,hf.tape.trans h.f.tape,hf.output.trans h.f.output,AJ h.f.size hf.size,λk hk hn=>(hf.block k (Aa hk h.f.size) (λe=>by have:=(h.h2 e.1).1;omega)).trans (h.f.block k hk hn)⟩;have r1:Rd Y R ad nn cap p:=hw.keep h.r f1 (hf.mono (λk hk e=>by have:=(h.h2 hk.1).1;omega));have F:=(AB.refl (λq=>q=w.1.size+1+1) Y).setCell (p:=⟨w.1.size+1+1,1,none⟩) rfl (.l pB (x.rn+1) Su);have f2:=f1.far (z:=w.1.size+1+1) Za 1 (.l pB (x.rn+1) Su);have S:=h.s.fr hf (λe=>by have:=(h.h2 e.1).1;omega);have A:=h.a.fr hf (λe=>by have:=(h.h2 e.1).1;omega);have U:=h.u.fr hf (λe=>by have:=(h.h2 e.1).1;omega);have W1:=h.w1.fr hf (λh0 e=>h.ne h0 e.1 e.2);have gl:0<Su->w.1.size+1+1+1<=YJ:=λ_=>by
  rcases hg with⟨h0,e⟩|e;.have:=(h.h2 h0).1;omega
  .omega
 refine⟨f2,hw.far r1 Za _ _,S.fr F Za,A.fr F Za,(U.set (o:=1) Za _).congr (λj hj=>?_),W1.fr F (λh0=>by have:=h.h1 h0;omega),hr.fr F (λh0=>by have:=gl h0;omega),h.h1,λh0=>⟨gl h0,hp.fr F (by have:=gl h0;omega) (hr.room h0).lt⟩,λh0 _=>?_,h.i.addR hv hn,(h.un.fr hf hl (λe=>by have:=(h.h2 e.1).1;omega)).set (U.cell 1 Zb) (λs e=>by cases e)⟩;.rcases(show j=0\/j=1 by omega)with rfl|rfl<;>rfl
 .rcases hg with⟨h1,e⟩|e;.rw[e];exact h.ne h0 h1
  .have:=Lg h0;omega
theorem Air (w:World):IC (((w.alloc (.cells (vB B a1 a2 a3 c1 c2 c3) 36)).alloc (.cells #[.l none 0 0,.l none 0 0] 118)).alloc (.cells #[.l none 0 0,.l none 0 0] 118)) (w.1.size+1+1):=λj s e=>by have n:=Al ((w.alloc (.cells (vB B a1 a2 a3 c1 c2 c3) 36)).alloc (.cells #[.l none 0 0,.l none 0 0] 118)) #[.l none 0 0,.l none 0 0] 118 j;rw[Av,Av]at n;rw[n]at e;match j,e with
 |0,e=>cases e
 |1,e=>cases e
 |n+2,e=>simp at e
theorem Abb (w:World) (B:Bk) (R:Nat) (ad:OA) (nn cap p:Nat) (a1 a2 a3:OA) (c1 c2 c3:Nat) (hr:Rd w R ad nn cap p):SA w B R ad nn cap p a1 a2 a3 c1 c2 c3 ⟨0,λ_=>⟨⟨#[]⟩,⟨#[]⟩,0⟩,0,λ_=>⟨0,⟨#[]⟩,⟨#[]⟩,0,⟨#[]⟩,⟨#[]⟩⟩⟩ none none 0 0 0 0 (((w.alloc (.cells (vB B a1 a2 a3 c1 c2 c3) 36)).alloc (.cells #[.l none 0 0,.l none 0 0] 118)).alloc (.cells #[.l none 0 0,.l none 0 0] 118)):=by have hb:Below w.1.size w (((w.alloc (.cells (vB B a1 a2 a3 c1 c2 c3) 36)).alloc (.cells #[.l none 0 0,.l none 0 0] 118)).alloc (.cells #[.l none 0 0,.l none 0 0] 118)):=(((Ap _ _).alloc A9 _).alloc Ze _).alloc Zd _;have h1:=AE.new (w:=w.alloc (.cells (vB B a1 a2 a3 c1 c2 c3) 36)) (l:=[.l none 0 0,.l none 0 0]) (t:=118) Dx;rw[Av]at h1;have h2:=AE.new (w:=(w.alloc (.cells (vB B a1 a2 a3 c1 c2 c3) 36)).alloc (.cells #[.l none 0 0,.l none 0 0] 118)) (l:=[.l none 0 0,.l none 0 0]) (t:=118) Dx;rw[Av,Av]at h2;exact⟨Aj hb,hr.below hb,AE.new (l:=(JR B a1 a2 a3 c1 c2 c3)) ((Ak _ _).alloc Ze _),h1.below Do Ze,h2,⟨λh=>absurd h (Bc _),AG _,λh=>absurd h (Bc _),λj hj=>absurd hj Ze⟩,⟨λh=>absurd h (Bc _),AG _,λh=>absurd h (Bc _),λj hj=>absurd hj Ze⟩,λh=>absurd h (Bc _),λh=>absurd h (Bc _),λh=>absurd h (Bc _),⟨Ar _,Ar _,λi hi=>absurd hi (Ae _),λi hi=>absurd hi (Ae _)⟩,Air _⟩
theorem TI{x:Ob}{n:Int}:Bv x n=true↔Cc x.k=true/\Cc x.n=true/\(1<=x.t/\x.t<=n)/\(1<=x.b/\x.b<=x.t)/\x.m.size<=300/\x.hn<=5/\S3 x.hn x.hs=true:=by
 unfold Bv D7;simp only[As,decide_eq_true_eq];constructor;.rintro⟨a,b,c,d,e,f,g⟩;exact⟨a,b,Lo c,Lo d,e,f,g⟩
 .rintro⟨a,b,c,d,e,f,g⟩;exact⟨a,b,H7 c,H7 d,e,f,g⟩
theorem Mi (h:CC B.os v.k v.n B.on=true):∃i,i<B.on/\Cx B v=B.os i/\(B.os i).k=v.k/\(B.os i).n=v.n:=by unfold CC at h;obtain⟨i,hi⟩:=Option.isSome_iff_exists.1 h;obtain⟨a,b,c⟩:=MZ hi;exact⟨i,a,by unfold Cx Ck;rw[hi],b,c⟩
theorem jQ (e1:B1.on=B.on) (e2:B1.os=B.os) (e3:B1.v=B.v) (h:VB B1) (Cj:LW B v) (hc:B8 B v=0):Bv (CL B v) (B.v+1)=true:=by
 obtain⟨c0,cn⟩:=KZ hc;have I4:=Sg c0;obtain⟨n1,n2,n3,n4,n5⟩:=vQ Cj.wr;have hh:=Xg Cj hc;have now0:=Cj.now0;rw[TI];by_cases h1:v.op=1
 .have e:CL B v=⟨v.k,v.n,B.v+1,B.v+1,v.m,false,if Vp v.hold then 0 else 1,λ_=>v.hold⟩:=by unfold CL KX;rw[if_pos h1]
  rw[e]at hh⊢;refine⟨n1,n2,⟨by show 1<=B.v+1;omega,Fc _⟩,⟨by show 1<=B.v+1;omega,Fc _⟩,n3,hh.1,aV hh.2 λi hi=>?_⟩;show Cc v.hold=true;rcases n4 with q|q;.have hi:i<(if Vp v.hold then 0 else 1):=hi;rw[q]at hi;exact absurd hi (Ae _)
  .exact q
 .have hf:CC B.os v.k v.n B.on=true:=by exact d9
  obtain⟨i,hi,ei,k1,k2⟩:=Mi hf;have hp:=(h.fit i (by rw[e1];exact hi)).1;rw[e2,e3,TI,<-ei]at hp;obtain⟨p1,p2,p3,p4,p5,p6,p7⟩:=hp;have nm:=OR p7;by_cases h2:v.op=2
  .have e:CL B v=⟨(Cx B v).k,(Cx B v).n,B.v+1,(Cx B v).b,v.m,(Cx B v).e,(Cx B v).hn,(Cx B v).hs⟩:=by unfold CL KX;rw[if_neg h1,if_pos h2]
   rw[e];exact⟨p1,p2,⟨by show 1<=B.v+1;omega,Fc _⟩,⟨p4.1,by show(Cx B v).b<=B.v+1;omega⟩,n3,p6,p7⟩
  .by_cases h3:v.op=3
   .have e:CL B v=⟨(Cx B v).k,(Cx B v).n,B.v+1,(Cx B v).b,(Cx B v).m,true,(Cx B v).hn,(Cx B v).hs⟩:=by unfold CL KX;rw[if_neg h1,if_neg h2,if_pos h3]
    rw[e];exact⟨p1,p2,⟨by show 1<=B.v+1;omega,Fc _⟩,⟨p4.1,by show(Cx B v).b<=B.v+1;omega⟩,p5,p6,p7⟩
   .by_cases h4:v.op=4
    .have e:CL B v=⟨(Cx B v).k,(Cx B v).n,B.v+1,(Cx B v).b,(Cx B v).m,(Cx B v).e,(Cx B v).hn+1,Qb (Cx B v).hs (Gu (Cx B v).hs v.hold (Cx B v).hn) v.hold⟩:=by unfold CL KX;rw[if_neg h1,if_neg h2,if_neg h3,if_pos h4]
     rw[e]at hh⊢;refine⟨p1,p2,⟨by show 1<=B.v+1;omega,Fc _⟩,⟨p4.1,by show(Cx B v).b<=B.v+1;omega⟩,p5,hh.1,aV hh.2 λj hj=>?_⟩;have hj:j<(Cx B v).hn+1:=hj;have hk:=(Kz (Cx B v).hs v.hold (Cx B v).hn).1;show Cc (Qb _ _ _ j)=true;unfold Qb;split;.exact nm j Za
     .split
      .have:=wZ n5 (AA h4);rcases n4 with q|q;.rw[q]at this;cases this
       .exact q
      .exact nm (j-1) Za
    .have e:CL B v=⟨(Cx B v).k,(Cx B v).n,B.v+1,(Cx B v).b,(Cx B v).m,(Cx B v).e,(Cx B v).hn-1,Lp (Cx B v).hs (Gu (Cx B v).hs v.hold (Cx B v).hn)⟩:=by unfold CL KX;rw[if_neg h1,if_neg h2,if_neg h3,if_neg h4]
     rw[e]at hh⊢;refine⟨p1,p2,⟨by show 1<=B.v+1;omega,Fc _⟩,⟨p4.1,by show(Cx B v).b<=B.v+1;omega⟩,p5,hh.1,aV hh.2 λj hj=>?_⟩;have hj:j<(Cx B v).hn-1:=hj;show Cc (Lp _ _ j)=true;unfold Lp;split;.exact nm j Za
     .exact nm (j+1) Za
theorem ge (I4:¬(CC B.os v.k v.n B.on=decide (v.op=1))):(CL B v).k=v.k/\(CL B v).n=v.n/\(v.op=1->(CL B v).b=B.v+1/\(CL B v).e=false)/\(¬v.op=1->(CL B v).b=(Cx B v).b):=by
 by_cases h1:v.op=1
 .have e:CL B v=⟨v.k,v.n,B.v+1,B.v+1,v.m,false,if Vp v.hold then 0 else 1,λ_=>v.hold⟩:=by unfold CL KX;rw[if_pos h1]
  rw[e];exact⟨rfl,rfl,λ_=>⟨rfl,rfl⟩,λh=>absurd h1 h⟩
 .have hf:CC B.os v.k v.n B.on=true:=by exact d9
  obtain⟨i,hi,ei,k1,k2⟩:=Mi hf;have g:(CL B v).k=(Cx B v).k/\(CL B v).n=(Cx B v).n/\(CL B v).b=(Cx B v).b:=by
   unfold CL KX;rw[if_neg h1];split;.exact⟨rfl,rfl,rfl⟩
   .split;.exact⟨rfl,rfl,rfl⟩
    .split<;>exact⟨rfl,rfl,rfl⟩
  rw[ei]at g;exact⟨g.1.trans k1,g.2.1.trans k2,λh=>absurd h h1,λ_=>by rw[ei];exact g.2.2⟩
theorem Abs (hb:(CL B v).b<(CL B v).t\/(CL B v).e=false):(if Dl B v then L2 (CL B v)else Dp (CL B v))=true:=by unfold Dl;cases hs:Dp (CL B v)with
 |true=>rfl
 |false=>
  show L2 (CL B v)=true;unfold Dp at hs;simp only[Bool.or_eq_false_iff,Bool.not_eq_false',decide_eq_false_iff_not]at hs;unfold L2;rcases hb with hb|hb;.rw[hs.1,decide_eq_true (show(CL B v).hn=0 by omega),decide_eq_true hb];rfl
  .rw[hs.1]at hb;cases hb
theorem fd (e1:B1.on=B.on) (e2:B1.os=B.os) (e3:B1.v=B.v) (h:VB B1) (h2:B1.hn<200) (Cj:LW B v) (hc:B8 B v=0):S' B1 (Ls B v) (Jd B v).on (Jd B v).os:=by
 obtain⟨c0,cn⟩:=KZ hc;have I4:=Sg c0;obtain⟨k1,k2,k3,k4⟩:=ge I4;have hv:(CL B v).t=B.v+1:=xB B v _;have hA:WS (Jd B v).on (Jd B v).os:=by rw[Vv,Mh];exact eZ (Vv.1 Cj.asc)
 have sI:∀i,i<(Jd B v).on->((Jd B v).os i=CL B v/\Dl B v=false)\/∃j,j<B.on/\(Jd B v).os i=B.os j/\¬el (B.os j) (CL B v):=λi hi=>by
  have hm:(Jd B v).os i∈Fb (Jd B v).on (Jd B v).os:=NN.2 ⟨i,hi,rfl⟩;rw[Mh]at hm;rcases TW hm with q|⟨q1,q2⟩;.exact AA q
  .obtain⟨j,j1,j2⟩:=NN.1 q1;refine Az ⟨j,j1,j2.symm,λk=>q2 ?_⟩;rw[<-j2];exact(WT _ _).2 k
 have Nw:∀j,j<B.on->(B.os j).t<=B.v:=λj hj=>by have:=Js (h.fit j (by rw[e1];exact hj)).1;rw[e2,e3]at this;exact this.2.2.2
 have uh:∀j,j<B.on->(B.os j).b<=(B.os j).t:=λj hj=>by have:=Js (h.fit j (by rw[e1];exact hj)).1;rw[e2]at this;exact this.2.1
 refine⟨h2,by rw[e3];exact cn,yH Cj hc,eu hA,?_,λi hi=>?_,λj hj hk=>?_,λg=>?_,by rw[e3];rfl,by rw[e3];exact hv,by rw[e3];exact jQ e1 e2 e3 h Cj hc,?_,?_⟩
 .unfold Es;refine AS.2 λi hi=>AS.2 λk hk=>decide_eq_true λe=>?_;have CF:¬(Jd B v).os k=(Jd B v).os i:=λq=>by have:=hA k i hk hi;rw[q,qj]at this;cases this
  rcases sI i hi with⟨a,_⟩|⟨j,j1,j2,_⟩<;>rcases sI k Za with⟨b,_⟩|⟨l,l1,l2,_⟩;.exact CF (b.trans a.symm)
  .rw[a,l2,hv]at e;have:=Nw l l1;omega
  .rw[b,j2,hv]at e;have:=Nw j j1;omega
  .rw[j2,l2]at e CF;have hjl:¬l=j:=λq=>CF (by rw[q]);have vd:=h.vd;unfold Es at vd;rw[e1,e2]at vd;rcases Nat.lt_or_gt_of_ne hjl with q|q;.exact of_decide_eq_true (AS.1 (AS.1 vd j j1) l q) e
   .exact of_decide_eq_true (AS.1 (AS.1 vd l l1) j q) e.symm
 .rcases sI i hi with q|⟨j,j1,j2,j3⟩;.exact AA q
  .exact Az ⟨j,by rw[e1];exact j1,by rw[e2];exact j2,by rw[e2];exact j3⟩
 .rw[e1]at hj;rw[e2]at hk⊢;have:=iU (o:=CL B v) (g:=Dl B v) (NN.2 ⟨j,hj,rfl⟩:B.os j∈Fb B.on B.os) (λq=>hk ((WT _ _).1 q));rw[<-Mh]at this;exact NN.1 this
 .have g:Dl B v=false:=g;have:CL B v∈Fb (Jd B v).on (Jd B v).os:=by rw[Mh,g];exact Yl _ _
  exact NN.1 this
 .refine Abs ?_;by_cases h1:v.op=1;.exact Az (k3 h1).2
  .have hf:CC B.os v.k v.n B.on=true:=by exact d9
   obtain⟨i,hi,ei,_,_⟩:=Mi hf;refine AA ?_;rw[k4 h1,hv,ei];have a:=uh i hi;have b:=Nw i hi;omega
 .show(match Jj B1.hs (CL B v).k (CL B v).n B1.hn with|none=>Ju (Ls B v) B1.f|some i=>IY (B1.hs i) (Ls B v))=true;by_cases h1:v.op=1
  .have hg:Dl B v=false:=by unfold Dl Dp;rw[(k3 h1).2];rfl
   have Kt:Nf (Ls B v)=true:=by show(!Dl B v&&(CL B v).b==B.v+1)=true;rw[hg,(k3 h1).1];simp
   cases q:Jj B1.hs (CL B v).k (CL B v).n B1.hn with
   |none=>show Ju (Ls B v) B1.f=true;unfold Ju;rw[Kt];rfl
   |some i=>
    show IY (B1.hs i) (Ls B v)=true;obtain⟨i1,i2,i3⟩:=Jy q;have o:=h.agH i i1;unfold Go.Proofs.YtdknjmgdgnmhjaaGreat.agH at o;rw[i2,i3,q,e1,e2,k1,k2]at o;have LI:(LP B.os v.k v.n B.on).isSome=false:=by rw[decide_eq_true h1]at I4;unfold CC at I4;simpa using I4
    rw[LI]at o;have hgo:(B1.hs i).g=true:=by simpa using o
    unfold IY;rw[hgo,Kt];rfl
  .have hf:CC B.os v.k v.n B.on=true:=by exact d9
   obtain⟨i,hi,ei,m1,m2⟩:=Mi hf;have a:=uh i hi;have b:=Nw i hi;have Kt:Nf (Ls B v)=false:=by
    show(!Dl B v&&(CL B v).b==B.v+1)=false;have:((CL B v).b==B.v+1)=false:=by rw[k4 h1,ei];simp;omega
    rw[this,Bool.and_false]
   have o:=h.agO i (by rw[e1];exact hi);unfold Go.Proofs.YtdknjmgdgnmhjaaGreat.agO at o;rw[e2,m1,m2]at o;rw[k1,k2];cases q:Jj B1.hs v.k v.n B1.hn with
   |none=>rw[q]at o;show Ju (Ls B v) B1.f=true;unfold Ju;rw[Kt];have o:=of_decide_eq_true o;show decide ((CL B v).b<=B1.f)=true;rw[k4 h1,ei];exact decide_eq_true Za
   |some j=>rw[q]at o;have o:(!(B1.hs j).g&&Cv (B.os i) (B1.hs j).ob)=true:=o;simp only[As,Bool.not_eq_true']at o;show IY (B1.hs j) (Ls B v)=true;unfold IY;rw[o.1,Kt];show((B1.hs j).ob.b==(CL B v).b)=true;have s:=o.2;unfold Cv at s;simp only[As,decide_eq_true_eq]at s;rw[k4 h1,ei,s.2.2.2.1];simp
theorem Rq (h:VB B) (Cj:LW B v) (hc:B8 B v=0):VB (Jd B v):=by
 by_cases h2:B.hn=200
 .have d:=fA h Za;have a:=ep d (fd (B:=B) (B1:=JA B) rfl rfl rfl d (by show B.hn-1<200;omega) Cj hc);have e:Jd B v=Kv (JA B) (Ls B v) (Jd B v).on (Jd B v).os:=by unfold Jd Kv JA wHs JH;simp[h2]
  rw[e];exact a
 .have a:=ep h (fd (B:=B) (B1:=B) rfl rfl rfl h (by have:=h.hn;omega) Cj hc);have e:Jd B v=Kv B (Ls B v) (Jd B v).on (Jd B v).os:=by unfold Jd Kv wHs JH;simp[h2]
  rw[e];exact a
end Go.Proofs.YtdknjmgdgnmhjaaGreat
