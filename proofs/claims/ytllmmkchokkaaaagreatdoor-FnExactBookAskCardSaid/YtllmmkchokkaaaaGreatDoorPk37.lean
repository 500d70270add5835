import Derived.Test.YtllmmkchokkaaaaGreatDoorPk31
import Derived.Test.YtllmmkchokkaaaaGreatDoorPk34
import Derived.Test.YtllmmkchokkaaaaGreatDoorPk36
import Derived.Test.YtllmmkchokkaaaaGreatDoorPk26
import Derived.Test.YtllmmkchokkaaaaGreatDoorPk19
set_option maxRecDepth 100000
set_option maxHeartbeats 4000000
namespace Go.Proofs.YtllmmkchokkaaaaGreatDoor
open Go.RowKit Go.Maps Go.Proofs.Tryz
theorem GM{P:Program}{id:Nat}{ops:Array Oper}{Q:Exit->Act->World->Prop}{a0:Act}{W:World}(hm:P.follows .mixedOrders=true) (n:Nat)(mk:(Nat->Value)->Array Value) (t0:Nat->Value) (E:World->Prop) (G:Nat->Value->World->Prop) (Z:Nat->Nat->Prop) (ZZ:Nat->Prop)(hn:ops.size=n) (hord:((List.range ops.size).all λi=>match ops[i]? with|some o=>o.after.all (λe=>!(Region.binds .any e)||decide (e.on<i))|none=>true)=true) (h0:a0=⟨mk t0,[]⟩) (hE:E W.drew) (hZ:∀i q,Z i q->ZZ q)(st:∀i j v X Y,i<n->j<n->¬i=j->E X->G j v X->AP (Z i) X Y->G j v Y)(sg:∀i,i<n->∀(t:Nat->Value) X K,AP ZZ W X->E X->(∀j,BU ops i j->G j (t j) X)->(∀v Y,G i v Y->E Y->AP (Z i) X Y->K ⟨mk (AF t i v),[]⟩ Y)->wpOp P ops Q i K ⟨mk t,[]⟩ X)(hfin:∀t X,AP ZZ W X->E X->(∀j,j<n->G j (t j) X)->Q .normal ⟨mk t,[]⟩ X):(Code.region id ops true).wp P Q a0 W:=by
 refine Wm hm n mk t0 (λf t X=>AP ZZ W X/\E X/\∀i,i<n->f i=true->G i (t i) X) hn hord h0 ?_ ?_ ?_;.intro f hf;exact⟨Aq ((Ak _ _).drew),hE,λi _ h=>by rw[hf]at h;cases h⟩
 .rintro i hi f t X K ⟨hb,hE',hG⟩ hfi hw hK;refine sg i hi t X K hb hE' (λj hj=>hG j ?_ (hw j hj)) (λv Y hv hEY hfY=>hK v Y (λg hgi hgj=>⟨hb.trans (hfY.mono (λq h=>hZ i q h)),hEY,λj hj h=>?_⟩))
  .obtain⟨o,ho,e,he,hbd,rfl⟩:=hj;have h1:=BO.1 hord i (by rw[hn];simpa using hi);simp only[ho]at h1;have h2:=(Bn.1 h1) e he;rw[hbd]at h2;have h3:e.on<i:=by simpa using h2
   omega
  .by_cases e:j=i;.subst e;rw[Ce];exact hv
   .rw[AK e];rw[hgj j e]at h;exact st i j _ X Y hi hj (λq=>e q.symm) hE' (hG j hj h) hfY
 .rintro f t X hf ⟨hb,hE',hG⟩;exact hfin t X hb hE' (λj hj=>hG j hj (hf j hj))
theorem KP.fr{X Y:World}{z:Nat}{P:Nat->Prop}(h:KP X z) (hf:AP P X Y) (hz:z<X.1.size) (hp:¬P z):KP Y z:=λj s e=>h j s (by rw[<-hf.cell (p:=⟨z,j,none⟩) hz hp];exact e)
structure Bo (X:World) (z m:Nat):Prop where
 row:∃c,AH X z m c
 no:KP X z
theorem Bo.lt{X:World}{z m:Nat}(h:Bo X z m):z<X.1.size:=by obtain⟨c,r⟩:=h.row;exact r.lt
theorem Bo.fr{X Y:World}{z m:Nat}{P:Nat->Prop}(h:Bo X z m) (hf:AP P X Y) (hp:¬P z):Bo Y z m:=by obtain⟨c,r⟩:=h.row;exact⟨⟨c,r.fr hf hp⟩,h.no.fr hf r.lt hp⟩
theorem Oh{w:World}{g:Nat}{c:Nat->Value}{u0 u1 u2:Value}(h:AH w g 3 c):AH (((w.setCell ⟨g,0,none⟩ u0).setCell ⟨g,1,none⟩ u1).setCell ⟨g,2,none⟩ u2) g 3 (Bg [u0,u1,u2]):=by have r:=((h.set (o:=0) Za u0).set (o:=1) Za u1).set (o:=2) Za u2;refine⟨r.lt,r.free,λj hj=>(r.cell j hj).trans (congrArg some ?_)⟩;rcases(show j=0\/j=1\/j=2 by omega)with rfl|rfl|rfl<;>rfl
theorem Rm{w:World}{z:Nat}(u0 u1 u2:Value):AP (λq=>q=z) w (((w.setCell ⟨z,0,none⟩ u0).setCell ⟨z,1,none⟩ u1).setCell ⟨z,2,none⟩ u2):=(((AP.refl (λq=>q=z) w).setCell (p:=⟨z,0,none⟩) rfl u0).setCell (p:=⟨z,1,none⟩) rfl u1).setCell (p:=⟨z,2,none⟩) rfl u2
theorem Bo.set5{w:World}{z:Nat}{v0 v1 v2 v3 v4:Value}(h:Bo w z 5) (h0:∀s,¬v0=.s s) (h1:∀s,¬v1=.s s) (h2:∀s,¬v2=.s s) (h3:∀s,¬v3=.s s) (h4:∀s,¬v4=.s s):Bo (((((w.setCell ⟨z,0,none⟩ v0).setCell ⟨z,1,none⟩ v1).setCell ⟨z,2,none⟩ v2).setCell ⟨z,3,none⟩ v3).setCell ⟨z,4,none⟩ v4) z 5:=by obtain⟨c,r⟩:=h.row;have r0:=r.set (o:=0) Za v0;have r1:=r0.set (o:=1) Za v1;have r2:=r1.set (o:=2) Za v2;have r3:=r2.set (o:=3) Za v3;exact⟨⟨_,MI r⟩,((((h.no.set (r.cell 0 Za) h0).set (r0.cell 1 Za) h1).set (r1.cell 2 Za) h2).set (r2.cell 3 Za) h3).set (r3.cell 4 Za) h4⟩
theorem Bo.set3{w:World}{z:Nat}{u0 u1 u2:Value}(h:Bo w z 3) (h0:∀s,¬u0=.s s) (h1:∀s,¬u1=.s s) (h2:∀s,¬u2=.s s):Bo (((w.setCell ⟨z,0,none⟩ u0).setCell ⟨z,1,none⟩ u1).setCell ⟨z,2,none⟩ u2) z 3:=by obtain⟨c,r⟩:=h.row;have r0:=r.set (o:=0) Za u0;have r1:=r0.set (o:=1) Za u1;exact⟨⟨_,Oh r⟩,((h.no.set (r.cell 0 Za) h0).set (r0.cell 1 Za) h1).set (r1.cell 2 Za) h2⟩
theorem oF{Q:Ending->World->Prop}{tmps:Array Value}{W:World}{A B:Nat}{v0 v1 v2 v3 v4 u0 u1 u2:Value}(hr:AH W A 5 (Bg [v0,v1,v2,v3,v4])) (hs:AH W B 3 (Bg [u0,u1,u2])) (h4:tmps[4]?.getD undef=.p A 0) (h5:tmps[5]?.getD undef=.p B 0) (hQ:Q (.returned (.tuple #[.agg #[v0,v1,v2,v3,v4],.agg #[u0,u1,u2]])) W):bodyPost prog Tryz.f24 Q .ret ⟨tmps,[]⟩ W:=by obtain⟨c0,c1,c2,c3,c4⟩:=YP hr;obtain⟨e0,e1,e2⟩:=ZU hs;exact bodyPost_ret (v:=.tuple #[.agg #[v0,v1,v2,v3,v4],.agg #[u0,u1,u2]]) (by simp only[results,results24];simp[go_sem,h4,h5,c0,c1,c2,c3,c4,e0,e1,e2]) rfl hQ
theorem nY{Q:Ending->World->Prop}{tmps:Array Value}{W:World}{A B:Nat}{v0 v1 v2 v3 v4 u0 u1 u2:Value}(hr:AH W A 5 (Bg [v0,v1,v2,v3,v4])) (hs:AH W B 3 (Bg [u0,u1,u2])) (h4:tmps[4]?.getD undef=.p A 0) (h5:tmps[5]?.getD undef=.p B 0) (hQ:Q (.returned (.tuple #[.agg #[v0,v1,v2,v3,v4],.agg #[u0,u1,u2]])) W):bodyPost prog Tryz.f26 Q .ret ⟨tmps,[]⟩ W:=by obtain⟨c0,c1,c2,c3,c4⟩:=YP hr;obtain⟨e0,e1,e2⟩:=ZU hs;exact bodyPost_ret (v:=.tuple #[.agg #[v0,v1,v2,v3,v4],.agg #[u0,u1,u2]]) (by simp only[results,results26];simp[go_sem,h4,h5,c0,c1,c2,c3,c4,e0,e1,e2]) rfl hQ
theorem QW{Q:Ending->World->Prop}{tmps:Array Value}{W:World}{A B:Nat}{v0 v1 v2 v3 v4 u0 u1 u2:Value}(hr:AH W A 5 (Bg [v0,v1,v2,v3,v4])) (hs:AH W B 3 (Bg [u0,u1,u2])) (h4:tmps[4]?.getD undef=.p A 0) (h5:tmps[5]?.getD undef=.p B 0) (hQ:Q (.returned (.tuple #[.agg #[v0,v1,v2,v3,v4],.agg #[u0,u1,u2]])) W):bodyPost prog Tryz.f62 Q .ret ⟨tmps,[]⟩ W:=by obtain⟨c0,c1,c2,c3,c4⟩:=YP hr;obtain⟨e0,e1,e2⟩:=ZU hs;exact bodyPost_ret (v:=.tuple #[.agg #[v0,v1,v2,v3,v4],.agg #[u0,u1,u2]]) (by simp only[results,results62];simp[go_sem,h4,h5,c0,c1,c2,c3,c4,e0,e1,e2]) rfl hQ
theorem SI{Q:Ending->World->Prop}{tmps:Array Value}{W:World}{A B:Nat}{v0 v1 v2 v3 v4 u0 u1 u2:Value}(hr:AH W A 5 (Bg [v0,v1,v2,v3,v4])) (hs:AH W B 3 (Bg [u0,u1,u2])) (h4:tmps[4]?.getD undef=.p A 0) (h5:tmps[5]?.getD undef=.p B 0) (hQ:Q (.returned (.tuple #[.agg #[v0,v1,v2,v3,v4],.agg #[u0,u1,u2]])) W):bodyPost prog Tryz.f63 Q .ret ⟨tmps,[]⟩ W:=by obtain⟨c0,c1,c2,c3,c4⟩:=YP hr;obtain⟨e0,e1,e2⟩:=ZU hs;exact bodyPost_ret (v:=.tuple #[.agg #[v0,v1,v2,v3,v4],.agg #[u0,u1,u2]]) (by simp only[results,results63];simp[go_sem,h4,h5,c0,c1,c2,c3,c4,e0,e1,e2]) rfl hQ
def Sw (S:Sa) (Y:Bk) (w:World) (e:Ending) (w':World):Prop:=Below w.1.size w w'/\∃(a1 a2 a3:OA) (c1 c2 c3:Nat),e=.returned (.tuple #[.agg (vB Y a1 a2 a3 c1 c2 c3),.agg (vS S)])/\Bz w' 0 w'.1.size Y a1 a2 a3
structure A8 (W:World) (s0:Nat) (B:Bk) (c:Ca) (a1 a2 a3:OA) (c1 c2 c3:Nat) (u1 u2:OA) (d1 d2:Nat):Prop where
 bk:Cl W s0 (GB B a1 a2 a3 c1 c2 c3)ca:Cl W (s0+1) (qX c u1 u2 d1 d2)an:Bo W (s0+1+1) 5
 sd:Bo W (s0+1+1+1) 3
 bin:Bz W 0 s0 B a1 a2 a3
 uin:CG W 0 s0 c.bu u1 u2
theorem A8.lt{W:World}{s0:Nat}{B:Bk}{c:Ca}{a1 a2 a3:OA}{c1 c2 c3:Nat}{u1 u2:OA}{d1 d2:Nat}(h:A8 W s0 B c a1 a2 a3 c1 c2 c3 u1 u2 d1 d2):s0+1+1+1<W.1.size:=h.sd.lt
theorem A8.below{W W':World}{s0:Nat}{B:Bk}{c:Ca}{a1 a2 a3:OA}{c1 c2 c3:Nat}{u1 u2:OA}{d1 d2:Nat}(h:A8 W s0 B c a1 a2 a3 c1 c2 c3 u1 u2 d1 d2) (hb:Below W.1.size W W'):A8 W' s0 B c a1 a2 a3 c1 c2 c3 u1 u2 d1 d2:=by have hz:=h.lt;exact⟨h.bk.below hb Za,h.ca.below hb Za,h.an.fr (Aq (P:=λ_=>False) hb) (λq=>q),h.sd.fr (Aq (P:=λ_=>False) hb) (λq=>q),h.bin.below hb Za,h.uin.below hb Za⟩
theorem Gx (w:World) (B:Bk) (c:Ca) (a1 a2 a3:OA) (c1 c2 c3:Nat) (u1 u2:OA) (d1 d2:Nat) (hb:Bz w 0 w.1.size B a1 a2 a3) (hu:CG w 0 w.1.size c.bu u1 u2):A8 ((((w.alloc (.cells (vB B a1 a2 a3 c1 c2 c3) 35)).alloc (.cells (vC c u1 u2 d1 d2) 70)).alloc (.cells #[.i 0,.i 0,.l none 0 0,.l none 0 0,.l none 0 0] 35)).alloc (.cells #[.i 0,.i 0,.bool false] 66)) w.1.size B c a1 a2 a3 c1 c2 c3 u1 u2 d1 d2/\Below w.1.size w ((((w.alloc (.cells (vB B a1 a2 a3 c1 c2 c3) 35)).alloc (.cells (vC c u1 u2 d1 d2) 70)).alloc (.cells #[.i 0,.i 0,.l none 0 0,.l none 0 0,.l none 0 0] 35)).alloc (.cells #[.i 0,.i 0,.bool false] 66)):=by
 have hB:Below w.1.size w ((((w.alloc (.cells (vB B a1 a2 a3 c1 c2 c3) 35)).alloc (.cells (vC c u1 u2 d1 d2) 70)).alloc (.cells #[.i 0,.i 0,.l none 0 0,.l none 0 0,.l none 0 0] 35)).alloc (.cells #[.i 0,.i 0,.bool false] 66)):=((((Ak _ _).alloc Bj _).alloc Ze _).alloc Zd _).alloc Zd _;have n4:∀j,((((w.alloc (.cells (vB B a1 a2 a3 c1 c2 c3) 35)).alloc (.cells (vC c u1 u2 d1 d2) 70)).alloc (.cells #[.i 0,.i 0,.l none 0 0,.l none 0 0,.l none 0 0] 35)).alloc (.cells #[.i 0,.i 0,.bool false] 66)).cell? ⟨w.1.size+1+1+1,j,none⟩=(#[.i 0,.i 0,.bool false]:Array Value)[j]?:=λj=>by have:=At (((w.alloc (.cells (vB B a1 a2 a3 c1 c2 c3) 35)).alloc (.cells (vC c u1 u2 d1 d2) 70)).alloc (.cells #[.i 0,.i 0,.l none 0 0,.l none 0 0,.l none 0 0] 35)) #[.i 0,.i 0,.bool false] 66 j;simpa using this
 have p3:∀b j:Nat,b<w.1.size+1+1+1->((((w.alloc (.cells (vB B a1 a2 a3 c1 c2 c3) 35)).alloc (.cells (vC c u1 u2 d1 d2) 70)).alloc (.cells #[.i 0,.i 0,.l none 0 0,.l none 0 0,.l none 0 0] 35)).alloc (.cells #[.i 0,.i 0,.bool false] 66)).cell? ⟨b,j,none⟩=(((w.alloc (.cells (vB B a1 a2 a3 c1 c2 c3) 35)).alloc (.cells (vC c u1 u2 d1 d2) 70)).alloc (.cells #[.i 0,.i 0,.l none 0 0,.l none 0 0,.l none 0 0] 35)).cell? ⟨b,j,none⟩:=λb j hp=>by rw[Ar _ _ _ (by simpa using hp)]
 have n3:∀j,((((w.alloc (.cells (vB B a1 a2 a3 c1 c2 c3) 35)).alloc (.cells (vC c u1 u2 d1 d2) 70)).alloc (.cells #[.i 0,.i 0,.l none 0 0,.l none 0 0,.l none 0 0] 35)).alloc (.cells #[.i 0,.i 0,.bool false] 66)).cell? ⟨w.1.size+1+1,j,none⟩=(#[.i 0,.i 0,.l none 0 0,.l none 0 0,.l none 0 0]:Array Value)[j]?:=λj=>by rw[p3 _ _ Za];have:=At ((w.alloc (.cells (vB B a1 a2 a3 c1 c2 c3) 35)).alloc (.cells (vC c u1 u2 d1 d2) 70)) #[.i 0,.i 0,.l none 0 0,.l none 0 0,.l none 0 0] 35 j;simpa using this
 have n2:∀j,((((w.alloc (.cells (vB B a1 a2 a3 c1 c2 c3) 35)).alloc (.cells (vC c u1 u2 d1 d2) 70)).alloc (.cells #[.i 0,.i 0,.l none 0 0,.l none 0 0,.l none 0 0] 35)).alloc (.cells #[.i 0,.i 0,.bool false] 66)).cell? ⟨w.1.size+1,j,none⟩=((vC c u1 u2 d1 d2):Array Value)[j]?:=λj=>by rw[p3 _ _ Za,Ar _ _ _ Ze];have:=At (w.alloc (.cells (vB B a1 a2 a3 c1 c2 c3) 35)) (vC c u1 u2 d1 d2) 70 j;simp
 have n1:∀j,((((w.alloc (.cells (vB B a1 a2 a3 c1 c2 c3) 35)).alloc (.cells (vC c u1 u2 d1 d2) 70)).alloc (.cells #[.i 0,.i 0,.l none 0 0,.l none 0 0,.l none 0 0] 35)).alloc (.cells #[.i 0,.i 0,.bool false] 66)).cell? ⟨w.1.size,j,none⟩=((vB B a1 a2 a3 c1 c2 c3):Array Value)[j]?:=λj=>by rw[p3 _ _ Za,Ar _ _ _ Zd,Ar _ _ _ Ze];exact At w (vB B a1 a2 a3 c1 c2 c3) 35 j
 refine⟨⟨λj hj=>?_,λj hj=>?_,⟨⟨_,AH.below (AS (w:=((w.alloc (.cells (vB B a1 a2 a3 c1 c2 c3) 35)).alloc (.cells (vC c u1 u2 d1 d2) 70))) (l:=[.i 0,.i 0,.l none 0 0,.l none 0 0,.l none 0 0]) (t:=35) BF) FU Ze|>λr=>by simpa using r⟩,λj s e=>?_⟩,⟨⟨_,by have r:=AS (w:=(((w.alloc (.cells (vB B a1 a2 a3 c1 c2 c3) 35)).alloc (.cells (vC c u1 u2 d1 d2) 70)).alloc (.cells #[.i 0,.i 0,.l none 0 0,.l none 0 0,.l none 0 0] 35))) (l:=[.i 0,.i 0,.bool false]) (t:=66) BF;simpa using r⟩,λj s e=>?_⟩,hb.below hB Bj,hu.below hB Bj⟩,hB⟩;.rw[n1 j];rcases(show j=0\/j=1\/j=2\/j=3\/j=4 by simp at hj;omega)with rfl|rfl|rfl|rfl|rfl<;>rfl
 .rw[n2 j];rcases(show j=0\/j=1\/j=2\/j=3 by simp at hj;omega)with rfl|rfl|rfl|rfl<;>rfl
 .rw[n3]at e;match j,e with
  |0,e=>cases e
  |1,e=>cases e
  |2,e=>cases e
  |3,e=>cases e
  |4,e=>cases e
  |n+5,e=>simp at e
 .rw[n4]at e;match j,e with
  |0,e=>cases e
  |1,e=>cases e
  |2,e=>cases e
  |n+3,e=>simp at e
theorem A8.done{W:World}{s0:Nat}{B:Bk}{c:Ca}{a1 a2 a3:OA}{c1 c2 c3:Nat}{u1 u2:OA}{d1 d2:Nat}(h:A8 W s0 B c a1 a2 a3 c1 c2 c3 u1 u2 d1 d2){w:World}(hw:Below w.1.size w W) (hs:w.1.size=s0) (v0 v1 v2 v3 v4 u0 u1 u2:Value):AH ((((((((W.setCell ⟨s0+1+1,0,none⟩ v0).setCell ⟨s0+1+1,1,none⟩ v1).setCell ⟨s0+1+1,2,none⟩ v2).setCell ⟨s0+1+1,3,none⟩ v3).setCell ⟨s0+1+1,4,none⟩ v4).setCell ⟨s0+1+1+1,0,none⟩ u0).setCell ⟨s0+1+1+1,1,none⟩ u1).setCell ⟨s0+1+1+1,2,none⟩ u2) (s0+1+1) 5 (Bg [v0,v1,v2,v3,v4])/\AH ((((((((W.setCell ⟨s0+1+1,0,none⟩ v0).setCell ⟨s0+1+1,1,none⟩ v1).setCell ⟨s0+1+1,2,none⟩ v2).setCell ⟨s0+1+1,3,none⟩ v3).setCell ⟨s0+1+1,4,none⟩ v4).setCell ⟨s0+1+1+1,0,none⟩ u0).setCell ⟨s0+1+1+1,1,none⟩ u1).setCell ⟨s0+1+1+1,2,none⟩ u2) (s0+1+1+1) 3 (Bg [u0,u1,u2])/\Below w.1.size w ((((((((W.setCell ⟨s0+1+1,0,none⟩ v0).setCell ⟨s0+1+1,1,none⟩ v1).setCell ⟨s0+1+1,2,none⟩ v2).setCell ⟨s0+1+1,3,none⟩ v3).setCell ⟨s0+1+1,4,none⟩ v4).setCell ⟨s0+1+1+1,0,none⟩ u0).setCell ⟨s0+1+1+1,1,none⟩ u1).setCell ⟨s0+1+1+1,2,none⟩ u2)/\(∀{X:Bk}{b1 b2 b3:OA},Bz W 0 s0 X b1 b2 b3->Bz ((((((((W.setCell ⟨s0+1+1,0,none⟩ v0).setCell ⟨s0+1+1,1,none⟩ v1).setCell ⟨s0+1+1,2,none⟩ v2).setCell ⟨s0+1+1,3,none⟩ v3).setCell ⟨s0+1+1,4,none⟩ v4).setCell ⟨s0+1+1+1,0,none⟩ u0).setCell ⟨s0+1+1+1,1,none⟩ u1).setCell ⟨s0+1+1+1,2,none⟩ u2) 0 ((((((((W.setCell ⟨s0+1+1,0,none⟩ v0).setCell ⟨s0+1+1,1,none⟩ v1).setCell ⟨s0+1+1,2,none⟩ v2).setCell ⟨s0+1+1,3,none⟩ v3).setCell ⟨s0+1+1,4,none⟩ v4).setCell ⟨s0+1+1+1,0,none⟩ u0).setCell ⟨s0+1+1+1,1,none⟩ u1).setCell ⟨s0+1+1+1,2,none⟩ u2).1.size X b1 b2 b3):=by obtain⟨c5,r5⟩:=h.an.row;obtain⟨c3',r3⟩:=h.sd.row;have F5:=Nz (w:=W) (z:=s0+1+1) v0 v1 v2 v3 v4;have F3:=Rm (w:=(((((W.setCell ⟨s0+1+1,0,none⟩ v0).setCell ⟨s0+1+1,1,none⟩ v1).setCell ⟨s0+1+1,2,none⟩ v2).setCell ⟨s0+1+1,3,none⟩ v3).setCell ⟨s0+1+1,4,none⟩ v4)) (z:=s0+1+1+1) u0 u1 u2;have hz:=hw.size;have B5:Below s0 W ((((((((W.setCell ⟨s0+1+1,0,none⟩ v0).setCell ⟨s0+1+1,1,none⟩ v1).setCell ⟨s0+1+1,2,none⟩ v2).setCell ⟨s0+1+1,3,none⟩ v3).setCell ⟨s0+1+1,4,none⟩ v4).setCell ⟨s0+1+1+1,0,none⟩ u0).setCell ⟨s0+1+1+1,1,none⟩ u1).setCell ⟨s0+1+1+1,2,none⟩ u2):=(F5.below (λq hq e=>by have e':q=s0+1+1:=e;omega) Za).trans (F3.below (λq hq e=>by have e':q=s0+1+1+1:=e;omega) sK);exact⟨(MI r5).fr F3 (λe=>by have e':s0+1+1=s0+1+1+1:=e;omega),Oh (r3.fr F5 (λe=>by have e':s0+1+1+1=s0+1+1:=e;omega)),by subst hs;exact hw.trans B5,λ{X b1 b2 b3}hX=>(hX.below B5 Bj).upTo sK⟩
end Go.Proofs.YtllmmkchokkaaaaGreatDoor
set_option maxRecDepth 100000
namespace Go.Proofs.YtllmmkchokkaaaaGreatDoor
open Go.RowKit Go.Proofs.Tryz
theorem V2 (x:Wt):(Ix x).size=8+x.kind.size+x.name.size+(CF x.ver).size:=by have h:=congrArg List.length (Ii [⟨#[119,97,110,116]⟩,x.kind,x.name,CF x.ver]);have e:(Ix x).size=(Ix x).data.toList.length:=Ze;rw[e];unfold Ix;rw[h];simp[Gq,Lib.join];omega
theorem WE (x:Wr):(IB x).size=12+(CF x.op).size+x.kind.size+x.name.size+(CF x.seen).size+(OC x.text).length+x.hold.size:=by have h:=congrArg List.length (Ii [⟨#[119,114,105,116,101]⟩,CF x.op,x.kind,x.name,CF x.seen,⟨(OC x.text).toArray⟩,x.hold]);have e:(IB x).size=(IB x).data.toList.length:=Ze;rw[e];unfold IB;rw[h];simp[Gq,Lib.join];omega
theorem Pq (n:Int) (h0:0<=n) (h1:n<=9223372036854775807) (w:World):Calls prog 168 #[.i n] w λe w'=>e=.returned (.s (CF n))/\Below w.1.size w w':=by have h:=nB n.toNat Za w;rw[show((n.toNat:Nat):Int)=n by omega]at h;exact h
def lP (b:Nat) (s:ByteArray) (x:Wt) (_W:World) (i:Nat) (v:Value) (_X:World):Prop:=match i with
 |0=>v=.s s
 |1=>v=.s (s++(⟨#[119,97,110,116,32]⟩:ByteArray))
 |2=>v=.p b 0
 |3=>v=.s x.kind
 |4=>v=.s ((s++(⟨#[119,97,110,116,32]⟩:ByteArray))++x.kind)
 |5=>v=.s (((s++(⟨#[119,97,110,116,32]⟩:ByteArray))++x.kind)++(⟨#[32]⟩:ByteArray))
 |6=>v=.p b 1
 |7=>v=.s x.name
 |8=>v=.s ((((s++(⟨#[119,97,110,116,32]⟩:ByteArray))++x.kind)++(⟨#[32]⟩:ByteArray))++x.name)
 |9=>v=.s (((((s++(⟨#[119,97,110,116,32]⟩:ByteArray))++x.kind)++(⟨#[32]⟩:ByteArray))++x.name)++(⟨#[32]⟩:ByteArray))
 |10=>v=.p b 2
 |11=>v=.i x.ver
 |12=>v=.s (CF x.ver)
 |13=>v=.s ((((((s++(⟨#[119,97,110,116,32]⟩:ByteArray))++x.kind)++(⟨#[32]⟩:ByteArray))++x.name)++(⟨#[32]⟩:ByteArray))++CF x.ver)
 |14=>v=.s (((((((s++(⟨#[119,97,110,116,32]⟩:ByteArray))++x.kind)++(⟨#[32]⟩:ByteArray))++x.name)++(⟨#[32]⟩:ByteArray))++CF x.ver)++(⟨#[10]⟩:ByteArray))
 |_=>True
theorem eC{P:Prop}(h:P:=by have e13:t 13=_:=hg 13 (AX rfl);have h:=hK _ X rfl BF;refine Am rfl rfl ?_;clear hK hg;go_simp;rw[if_neg Za,Bq];go_simp;simpa[AF,e13]using h):P:=h
theorem bZ{P:Prop}(h:P:=by have e0:t 0=_:=hg 0 (AX rfl);have h:=hK _ X rfl BF;refine Am rfl rfl ?_;clear hK hg;go_simp;rw[if_neg Za,Bq];go_simp;simpa[AF,e0]using h):P:=h
theorem Sc{P:Prop}(h:P:=by have c0:=(hb.cell (p:=⟨b,0,none⟩) hb0).trans hc0;exact sg):P:=h
theorem Rx{P:Prop}(h:P:=by have c1:=(hb.cell (p:=⟨b,1,none⟩) hb0).trans hc1;exact sg):P:=h
theorem Sp{P:Prop}(h:P:=by have c2:=(hb.cell (p:=⟨b,2,none⟩) hb0).trans hc2;exact sg):P:=h
theorem qJ{p0 p1 p2 p4 p6 p7 p8 p9 Eb Es Eh El D8 Ej Ei EN EL EJ Ff Fe Fd Ev Ft FC Fw Fy Fs Fu Fx Fq FE EY EP FQ GP GO Gj Gk Gm Ir Iq Hu Hi Hh Hg Iu Iv Iw Ic Ib H9 HJ IH ID IF IE IG IC I9 Ja Jt Js Jb Je Jc IX IV IW Jz JA Jy JZ J0 JX JY J3 J5 J4 J6 Ke Ki Ma Md FX FW EZ E1 EC EA EB E0 E4:Value}{mk:(Nat->Value)->Array Value}(t0:Nat->Value) (b:Nat) (s:ByteArray) (x:Wt) (W:World) (hb0:b<W.1.size) (hc0:W.cell? ⟨b,0,none⟩=some (.s x.kind)) (hc1:W.cell? ⟨b,1,none⟩=some (.s x.name)) (hc2:W.cell? ⟨b,2,none⟩=some (.i x.ver)) (hv0:0<=x.ver) (hv1:x.ver<=9223372036854775807) (hs:(s.size:Int)<=1099511627776) (hk:(x.kind.size:Int)<=1048576) (hn:(x.name.size:Int)<=1048576) (hz:((CF x.ver).size:Int)<=1099511627776) (hmk:mk=λt=>#[p0,p1,p2,.s s,p4,.p b 0,p6,p7,p8,p9,Eb,Es,Eh,El,D8,Ej,Ei,EN,EL,EJ,Ff,Fe,Fd,Ev,t 0,t 1,t 2,t 3,t 4,t 5,t 6,t 7,t 8,t 9,t 10,t 11,t 12,t 13,t 14,Ft,FC,Fw,Fy,Fs,Fu,Fx,Fq,FE,EY,EP,FQ,GP,GO,Gj,Gk,Gm,Ir,Iq,Hu,Hi,Hh,Hg,Iu,Iv,Iw,Ic,Ib,H9,HJ,IH,ID,IF,IE,IG,IC,I9,Ja,Jt,Js,Jb,Je,Jc,IX,IV,IW,Jz,JA,Jy,JZ,J0,JX,JY,J3,J5,J4,J6,Ke,Ki,Ma,Md,FX,FW,EZ,E1,EC,EA,EB,E0,E4]) (Q:Exit->Act->World->Prop) (hQ:∀(t:Nat->Value) X,Below W.1.size W X->Q .normal ⟨#[p0,p1,p2,.s (s++Ix x),p4,.p b 0,p6,p7,p8,p9,Eb,Es,Eh,El,D8,Ej,Ei,EN,EL,EJ,Ff,Fe,Fd,Ev,t 0,t 1,t 2,t 3,t 4,t 5,t 6,t 7,t 8,t 9,t 10,t 11,t 12,t 13,t 14,Ft,FC,Fw,Fy,Fs,Fu,Fx,Fq,FE,EY,EP,FQ,GP,GO,Gj,Gk,Gm,Ir,Iq,Hu,Hi,Hh,Hg,Iu,Iv,Iw,Ic,Ib,H9,HJ,IH,ID,IF,IE,IG,IC,I9,Ja,Jt,Js,Jb,Je,Jc,IX,IV,IW,Jz,JA,Jy,JZ,J0,JX,JY,J3,J5,J4,J6,Ke,Ki,Ma,Md,FX,FW,EZ,E1,EC,EA,EB,E0,E4],[]⟩ X):Code.wp prog (rg Tryz.f117 6) Q ⟨mk t0,[]⟩ W:=by
 refine Et Zc 15 mk t0 (lP b s x W) (λa X=>∃(t:Nat->Value),a=⟨#[p0,p1,p2,.s (s++Ix x),p4,.p b 0,p6,p7,p8,p9,Eb,Es,Eh,El,D8,Ej,Ei,EN,EL,EJ,Ff,Fe,Fd,Ev,t 0,t 1,t 2,t 3,t 4,t 5,t 6,t 7,t 8,t 9,t 10,t 11,t 12,t 13,t 14,Ft,FC,Fw,Fy,Fs,Fu,Fx,Fq,FE,EY,EP,FQ,GP,GO,Gj,Gk,Gm,Ir,Iq,Hu,Hi,Hh,Hg,Iu,Iv,Iw,Ic,Ib,H9,HJ,IH,ID,IF,IE,IG,IC,I9,Ja,Jt,Js,Jb,Je,Jc,IX,IV,IW,Jz,JA,Jy,JZ,J0,JX,JY,J3,J5,J4,J6,Ke,Ki,Ma,Md,FX,FW,EZ,E1,EC,EA,EB,E0,E4],[]⟩/\Below W.1.size W X) Zc Zc Zc ?_ rfl ?_ ?_ ?_;all_goals subst hmk
 .exact λ_ _ _ _ _ h _=>h
 .intro i hi t X K hb hg hK;rcases(show i=0\/i=1\/i=2\/i=3\/i=4\/i=5\/i=6\/i=7\/i=8\/i=9\/i=10\/i=11\/i=12\/i=13\/i=14 by omega)with rfl|rfl|rfl|rfl|rfl|rfl|rfl|rfl|rfl|rfl|rfl|rfl|rfl|rfl|rfl;.exact sg
  .exact bZ
  .exact sg
  .have ea:t 2=_:=hg 2 (AX rfl);exact Sc
  .have e1:t 1=_:=hg 1 (AX rfl);have e3:t 3=_:=hg 3 (AX rfl);have h:=hK _ X rfl BF;refine Am rfl rfl ?_;clear hK hg;go_simp;rw[if_neg Za,Bq];go_simp;simpa[AF,e1,e3]using h
  .have e4:t 4=_:=hg 4 (AX rfl);have h:=hK _ X rfl BF;refine Am rfl rfl ?_;clear hK hg;go_simp;rw[if_neg Za,Bq];go_simp;simpa[AF,e4]using h
  .exact sg
  .have ea:t 6=_:=hg 6 (AX rfl);exact Rx
  .have e5:t 5=_:=hg 5 (AX rfl);have e7:t 7=_:=hg 7 (AX rfl);have h:=hK _ X rfl BF;refine Am rfl rfl ?_;clear hK hg;go_simp;rw[if_neg Za,Bq];go_simp;simpa[AF,e5,e7]using h
  .have e8:t 8=_:=hg 8 (AX rfl);have h:=hK _ X rfl BF;refine Am rfl rfl ?_;clear hK hg;go_simp;rw[if_neg Za,Bq];go_simp;simpa[AF,e8]using h
  .exact sg
  .have ea:t 10=_:=hg 10 (AX rfl);exact Sp
  .have e11:t 11=_:=hg 11 (AX rfl);refine Am rfl rfl ?_;have HK:=Ai hK;clear hK hg;go_simp;go_at_call 168;refine(Pq x.ver hv0 hv1 X).mono ?_;rintro r Y ⟨rfl,hbY⟩;have h:=HK _ Y rfl hbY;simpa[AF,e11]using h
  .have e9:t 9=_:=hg 9 (AX rfl);have e12:t 12=_:=hg 12 (AX rfl);have h:=hK _ X rfl BF;refine Am rfl rfl ?_;clear hK hg;go_simp;rw[if_neg Za,Bq];go_simp;simpa[AF,e9,e12]using h
  .exact eC
 .intro t X K hb hg hK;have e14:t 14=_:=hg 14 Za;have h:=hK ⟨#[p0,p1,p2,.s (s++Ix x),p4,.p b 0,p6,p7,p8,p9,Eb,Es,Eh,El,D8,Ej,Ei,EN,EL,EJ,Ff,Fe,Fd,Ev,t 0,t 1,t 2,t 3,t 4,t 5,t 6,t 7,t 8,t 9,t 10,t 11,t 12,t 13,t 14,Ft,FC,Fw,Fy,Fs,Fu,Fx,Fq,FE,EY,EP,FQ,GP,GO,Gj,Gk,Gm,Ir,Iq,Hu,Hi,Hh,Hg,Iu,Iv,Iw,Ic,Ib,H9,HJ,IH,ID,IF,IE,IG,IC,I9,Ja,Jt,Js,Jb,Je,Jc,IX,IV,IW,Jz,JA,Jy,JZ,J0,JX,JY,J3,J5,J4,J6,Ke,Ki,Ma,Md,FX,FW,EZ,E1,EC,EA,EB,E0,E4],[]⟩ X ⟨t,rfl,hb⟩;rw[Ix,<-X5]at h;refine Am rfl rfl ?_;clear hK hg;go_simp;simpa[e14]using h
 .rintro a X ⟨t,rfl,hb⟩;exact hQ t X hb
def cR (b:Nat) (s:ByteArray) (x:Wr) (_W:World) (i:Nat) (v:Value) (_X:World):Prop:=match i with
 |0=>v=.s s
 |1=>v=.s (s++(⟨#[119,114,105,116,101,32]⟩:ByteArray))
 |2=>v=.p b 0
 |3=>v=.i x.op
 |4=>v=.s (CF x.op)
 |5=>v=.s ((s++(⟨#[119,114,105,116,101,32]⟩:ByteArray))++CF x.op)
 |6=>v=.s (((s++(⟨#[119,114,105,116,101,32]⟩:ByteArray))++CF x.op)++(⟨#[32]⟩:ByteArray))
 |7=>v=.p b 1
 |8=>v=.s x.kind
 |9=>v=.s ((((s++(⟨#[119,114,105,116,101,32]⟩:ByteArray))++CF x.op)++(⟨#[32]⟩:ByteArray))++x.kind)
 |10=>v=.s (((((s++(⟨#[119,114,105,116,101,32]⟩:ByteArray))++CF x.op)++(⟨#[32]⟩:ByteArray))++x.kind)++(⟨#[32]⟩:ByteArray))
 |11=>v=.p b 2
 |12=>v=.s x.name
 |13=>v=.s ((((((s++(⟨#[119,114,105,116,101,32]⟩:ByteArray))++CF x.op)++(⟨#[32]⟩:ByteArray))++x.kind)++(⟨#[32]⟩:ByteArray))++x.name)
 |14=>v=.s (((((((s++(⟨#[119,114,105,116,101,32]⟩:ByteArray))++CF x.op)++(⟨#[32]⟩:ByteArray))++x.kind)++(⟨#[32]⟩:ByteArray))++x.name)++(⟨#[32]⟩:ByteArray))
 |15=>v=.p b 3
 |16=>v=.i x.seen
 |17=>v=.s (CF x.seen)
 |18=>v=.s ((((((((s++(⟨#[119,114,105,116,101,32]⟩:ByteArray))++CF x.op)++(⟨#[32]⟩:ByteArray))++x.kind)++(⟨#[32]⟩:ByteArray))++x.name)++(⟨#[32]⟩:ByteArray))++CF x.seen)
 |19=>v=.s (((((((((s++(⟨#[119,114,105,116,101,32]⟩:ByteArray))++CF x.op)++(⟨#[32]⟩:ByteArray))++x.kind)++(⟨#[32]⟩:ByteArray))++x.name)++(⟨#[32]⟩:ByteArray))++CF x.seen)++(⟨#[32]⟩:ByteArray))
 |20=>v=.p b 4
 |21=>v=.s x.text
 |22=>v=.s (⟨(OC x.text).toArray⟩:ByteArray)
 |23=>v=.s ((((((((((s++(⟨#[119,114,105,116,101,32]⟩:ByteArray))++CF x.op)++(⟨#[32]⟩:ByteArray))++x.kind)++(⟨#[32]⟩:ByteArray))++x.name)++(⟨#[32]⟩:ByteArray))++CF x.seen)++(⟨#[32]⟩:ByteArray))++(⟨(OC x.text).toArray⟩:ByteArray))
 |24=>v=.s (((((((((((s++(⟨#[119,114,105,116,101,32]⟩:ByteArray))++CF x.op)++(⟨#[32]⟩:ByteArray))++x.kind)++(⟨#[32]⟩:ByteArray))++x.name)++(⟨#[32]⟩:ByteArray))++CF x.seen)++(⟨#[32]⟩:ByteArray))++(⟨(OC x.text).toArray⟩:ByteArray))++(⟨#[32]⟩:ByteArray))
 |25=>v=.p b 5
 |26=>v=.s x.hold
 |27=>v=.s ((((((((((((s++(⟨#[119,114,105,116,101,32]⟩:ByteArray))++CF x.op)++(⟨#[32]⟩:ByteArray))++x.kind)++(⟨#[32]⟩:ByteArray))++x.name)++(⟨#[32]⟩:ByteArray))++CF x.seen)++(⟨#[32]⟩:ByteArray))++(⟨(OC x.text).toArray⟩:ByteArray))++(⟨#[32]⟩:ByteArray))++x.hold)
 |28=>v=.s (((((((((((((s++(⟨#[119,114,105,116,101,32]⟩:ByteArray))++CF x.op)++(⟨#[32]⟩:ByteArray))++x.kind)++(⟨#[32]⟩:ByteArray))++x.name)++(⟨#[32]⟩:ByteArray))++CF x.seen)++(⟨#[32]⟩:ByteArray))++(⟨(OC x.text).toArray⟩:ByteArray))++(⟨#[32]⟩:ByteArray))++x.hold)++(⟨#[10]⟩:ByteArray))
 |_=>True
theorem mN{p0 p1 p2 p4 p5 p6 p8 p9 Eb Es Eh El D8 Ej Ei EN EL EJ Ff Fe Fd Ev EK FA EU E9 Ez EV Fa Fb E8 Fc FM FD Fo Fz Fp Ft FC Fw Fy Fs Fu Fx Fq FE EY EP FQ Je Jc IX IV IW Jz JA Jy JZ J0 JX JY J3 J5 J4 J6 Ke Ki Ma Md FX FW EZ E1 EC EA EB E0 E4:Value}{mk:(Nat->Value)->Array Value}(t0:Nat->Value) (b:Nat) (s:ByteArray) (x:Wr) (W:World) (hb0:b<W.1.size) (hc0:W.cell? ⟨b,0,none⟩=some (.i x.op)) (hc1:W.cell? ⟨b,1,none⟩=some (.s x.kind)) (hc2:W.cell? ⟨b,2,none⟩=some (.s x.name)) (hc3:W.cell? ⟨b,3,none⟩=some (.i x.seen)) (hc4:W.cell? ⟨b,4,none⟩=some (.s x.text)) (hc5:W.cell? ⟨b,5,none⟩=some (.s x.hold)) (ho0:0<=x.op) (ho1:x.op<=9223372036854775807) (hv0:0<=x.seen) (hv1:x.seen<=9223372036854775807) (hx:(x.text.size:Int)<=1099511627776) (hs:(s.size:Int)<=1099511627776) (hz1:((CF x.op).size:Int)<=1099511627776) (hz2:(x.kind.size:Int)<=1099511627776) (hz3:(x.name.size:Int)<=1099511627776) (hz4:((CF x.seen).size:Int)<=1099511627776) (hz5:((OC x.text).length:Int)<=1099511627776) (hz6:(x.hold.size:Int)<=1099511627776) (hmk:mk=λt=>#[p0,p1,p2,.s s,p4,p5,p6,.p b 0,p8,p9,Eb,Es,Eh,El,D8,Ej,Ei,EN,EL,EJ,Ff,Fe,Fd,Ev,EK,FA,EU,E9,Ez,EV,Fa,Fb,E8,Fc,FM,FD,Fo,Fz,Fp,Ft,FC,Fw,Fy,Fs,Fu,Fx,Fq,FE,EY,EP,FQ,t 0,t 1,t 2,t 3,t 4,t 5,t 6,t 7,t 8,t 9,t 10,t 11,t 12,t 13,t 14,t 15,t 16,t 17,t 18,t 19,t 20,t 21,t 22,t 23,t 24,t 25,t 26,t 27,t 28,Je,Jc,IX,IV,IW,Jz,JA,Jy,JZ,J0,JX,JY,J3,J5,J4,J6,Ke,Ki,Ma,Md,FX,FW,EZ,E1,EC,EA,EB,E0,E4]) (Q:Exit->Act->World->Prop) (hQ:∀(t:Nat->Value) X,Below W.1.size W X->Q .normal ⟨#[p0,p1,p2,.s (s++IB x),p4,p5,p6,.p b 0,p8,p9,Eb,Es,Eh,El,D8,Ej,Ei,EN,EL,EJ,Ff,Fe,Fd,Ev,EK,FA,EU,E9,Ez,EV,Fa,Fb,E8,Fc,FM,FD,Fo,Fz,Fp,Ft,FC,Fw,Fy,Fs,Fu,Fx,Fq,FE,EY,EP,FQ,t 0,t 1,t 2,t 3,t 4,t 5,t 6,t 7,t 8,t 9,t 10,t 11,t 12,t 13,t 14,t 15,t 16,t 17,t 18,t 19,t 20,t 21,t 22,t 23,t 24,t 25,t 26,t 27,t 28,Je,Jc,IX,IV,IW,Jz,JA,Jy,JZ,J0,JX,JY,J3,J5,J4,J6,Ke,Ki,Ma,Md,FX,FW,EZ,E1,EC,EA,EB,E0,E4],[]⟩ X):Code.wp prog (rg Tryz.f117 11) Q ⟨mk t0,[]⟩ W:=by
 refine Et Zc 29 mk t0 (cR b s x W) (λa X=>∃(t:Nat->Value),a=⟨#[p0,p1,p2,.s (s++IB x),p4,p5,p6,.p b 0,p8,p9,Eb,Es,Eh,El,D8,Ej,Ei,EN,EL,EJ,Ff,Fe,Fd,Ev,EK,FA,EU,E9,Ez,EV,Fa,Fb,E8,Fc,FM,FD,Fo,Fz,Fp,Ft,FC,Fw,Fy,Fs,Fu,Fx,Fq,FE,EY,EP,FQ,t 0,t 1,t 2,t 3,t 4,t 5,t 6,t 7,t 8,t 9,t 10,t 11,t 12,t 13,t 14,t 15,t 16,t 17,t 18,t 19,t 20,t 21,t 22,t 23,t 24,t 25,t 26,t 27,t 28,Je,Jc,IX,IV,IW,Jz,JA,Jy,JZ,J0,JX,JY,J3,J5,J4,J6,Ke,Ki,Ma,Md,FX,FW,EZ,E1,EC,EA,EB,E0,E4],[]⟩/\Below W.1.size W X) Zc Zc Zc ?_ rfl ?_ ?_ ?_;all_goals subst hmk
 .exact λ_ _ _ _ _ h _=>h
 .intro i hi t X K hb hg hK;rcases(show i=0\/i=1\/i=2\/i=3\/i=4\/i=5\/i=6\/i=7\/i=8\/i=9\/i=10\/i=11\/i=12\/i=13\/i=14\/i=15\/i=16\/i=17\/i=18\/i=19\/i=20\/i=21\/i=22\/i=23\/i=24\/i=25\/i=26\/i=27\/i=28 by omega)with rfl|rfl|rfl|rfl|rfl|rfl|rfl|rfl|rfl|rfl|rfl|rfl|rfl|rfl|rfl|rfl|rfl|rfl|rfl|rfl|rfl|rfl|rfl|rfl|rfl|rfl|rfl|rfl|rfl;.exact sg
  .exact bZ
  .exact sg
  .have ea:t 2=_:=hg 2 (AX rfl);exact Sc
  .have e3:t 3=_:=hg 3 (AX rfl);refine Am rfl rfl ?_;have HK:=Ai hK;clear hK hg;go_simp;go_at_call 168;refine(Pq x.op ho0 ho1 X).mono ?_;rintro r Y ⟨rfl,hbY⟩;have h:=HK _ Y rfl hbY;simpa[AF,e3]using h
  .have e1:t 1=_:=hg 1 (AX rfl);have e4:t 4=_:=hg 4 (AX rfl);have h:=hK _ X rfl BF;refine Am rfl rfl ?_;clear hK hg;go_simp;rw[if_neg Za,Bq];go_simp;simpa[AF,e1,e4]using h
  .have e5:t 5=_:=hg 5 (AX rfl);have h:=hK _ X rfl BF;refine Am rfl rfl ?_;clear hK hg;go_simp;rw[if_neg Za,Bq];go_simp;simpa[AF,e5]using h
  .exact sg
  .have ea:t 7=_:=hg 7 (AX rfl);exact Rx
  .have e6:t 6=_:=hg 6 (AX rfl);have e8:t 8=_:=hg 8 (AX rfl);have h:=hK _ X rfl BF;refine Am rfl rfl ?_;clear hK hg;go_simp;rw[if_neg Za,Bq];go_simp;simpa[AF,e6,e8]using h
  .have e9:t 9=_:=hg 9 (AX rfl);have h:=hK _ X rfl BF;refine Am rfl rfl ?_;clear hK hg;go_simp;rw[if_neg Za,Bq];go_simp;simpa[AF,e9]using h
  .exact sg
  .have ea:t 11=_:=hg 11 (AX rfl);exact Sp
  .have e10:t 10=_:=hg 10 (AX rfl);have e12:t 12=_:=hg 12 (AX rfl);have h:=hK _ X rfl BF;refine Am rfl rfl ?_;clear hK hg;go_simp;rw[if_neg Za,Bq];go_simp;simpa[AF,e10,e12]using h
  .exact eC
  .exact sg
  .have ea:t 15=_:=hg 15 (AX rfl);have c3:=(hb.cell (p:=⟨b,3,none⟩) hb0).trans hc3;exact sg
  .have e16:t 16=_:=hg 16 (AX rfl);refine Am rfl rfl ?_;have HK:=Ai hK;clear hK hg;go_simp;go_at_call 168;refine(Pq x.seen hv0 hv1 X).mono ?_;rintro r Y ⟨rfl,hbY⟩;have h:=HK _ Y rfl hbY;simpa[AF,e16]using h
  .have e14:t 14=_:=hg 14 (AX rfl);have e17:t 17=_:=hg 17 (AX rfl);have h:=hK _ X rfl BF;refine Am rfl rfl ?_;clear hK hg;go_simp;rw[if_neg Za,Bq];go_simp;simpa[AF,e14,e17]using h
  .have e18:t 18=_:=hg 18 (AX rfl);have h:=hK _ X rfl BF;refine Am rfl rfl ?_;clear hK hg;go_simp;rw[if_neg Za,Bq];go_simp;simpa[AF,e18]using h
  .exact sg
  .have ea:t 20=_:=hg 20 (AX rfl);have c4:=(hb.cell (p:=⟨b,4,none⟩) hb0).trans hc4;exact sg
  .have e21:t 21=_:=hg 21 (AX rfl);refine Am rfl rfl ?_;have HK:=Ai hK;clear hK hg;go_simp;go_at_call 169;refine(X6 x.text X hx).mono ?_;rintro r Y ⟨rfl,hbY⟩;have h:=HK _ Y rfl hbY;simpa[AF,e21]using h
  .have e19:t 19=_:=hg 19 (AX rfl);have e22:t 22=_:=hg 22 (AX rfl);have h:=hK _ X rfl BF;refine Am rfl rfl ?_;clear hK hg;go_simp;rw[if_neg Za,Bq];go_simp;simpa[AF,e19,e22]using h
  .have e23:t 23=_:=hg 23 (AX rfl);have h:=hK _ X rfl BF;refine Am rfl rfl ?_;clear hK hg;go_simp;rw[if_neg Za,Bq];go_simp;simpa[AF,e23]using h
  .exact sg
  .have ea:t 25=_:=hg 25 (AX rfl);have c5:=(hb.cell (p:=⟨b,5,none⟩) hb0).trans hc5;exact sg
  .have e24:t 24=_:=hg 24 (AX rfl);have e26:t 26=_:=hg 26 (AX rfl);have h:=hK _ X rfl BF;refine Am rfl rfl ?_;clear hK hg;go_simp;rw[if_neg Za,Bq];go_simp;simpa[AF,e24,e26]using h
  .have e27:t 27=_:=hg 27 (AX rfl);have h:=hK _ X rfl BF;refine Am rfl rfl ?_;clear hK hg;go_simp;rw[if_neg Za,Bq];go_simp;simpa[AF,e27]using h
 .intro t X K hb hg hK;have e28:t 28=_:=hg 28 Za;have h:=hK ⟨#[p0,p1,p2,.s (s++IB x),p4,p5,p6,.p b 0,p8,p9,Eb,Es,Eh,El,D8,Ej,Ei,EN,EL,EJ,Ff,Fe,Fd,Ev,EK,FA,EU,E9,Ez,EV,Fa,Fb,E8,Fc,FM,FD,Fo,Fz,Fp,Ft,FC,Fw,Fy,Fs,Fu,Fx,Fq,FE,EY,EP,FQ,t 0,t 1,t 2,t 3,t 4,t 5,t 6,t 7,t 8,t 9,t 10,t 11,t 12,t 13,t 14,t 15,t 16,t 17,t 18,t 19,t 20,t 21,t 22,t 23,t 24,t 25,t 26,t 27,t 28,Je,Jc,IX,IV,IW,Jz,JA,Jy,JZ,J0,JX,JY,J3,J5,J4,J6,Ke,Ki,Ma,Md,FX,FW,EZ,E1,EC,EA,EB,E0,E4],[]⟩ X ⟨t,rfl,hb⟩;rw[IB,<-VE]at h;refine Am rfl rfl ?_;clear hK hg;go_simp;simpa[e28]using h
 .rintro a X ⟨t,rfl,hb⟩;exact hQ t X hb
end Go.Proofs.YtllmmkchokkaaaaGreatDoor
set_option maxRecDepth 100000
namespace Go.Proofs.YtllmmkchokkaaaaGreatDoor
open Go.RowKit Go.Proofs.Tryz
theorem SL.mono{w:World}{base base':Nat}{v:Value}{xs:List ByteArray}(h:SL w base v xs) (hb:base'<=base):SL w base' v xs:=by obtain⟨g,cap,e1,e2,e3,e4,e5,e6⟩:=h;exact⟨g,cap,e1,AA hb e2,e3,e4,e5,e6⟩
theorem Nn (n:Int) (h0:0<=n) (h1:n<=9223372036854775807) (w:World) (ht:L3 w):Calls prog 195 #[.i n] w λe w'=>e=.returned (.s (CF n))/\Below w.1.size w w':=by have:=bW n.toNat Za w ht;rw[show((n.toNat:Nat):Int)=n by omega]at this;exact this
def mH (b:Nat) (s:Int) (x:Wt) (W:World) (i:Nat) (v:Value) (X:World):Prop:=match i with
 |0=>v=.int .u64 s
 |1=>v=.p b 0
 |2=>v=.s x.kind
 |3=>v=.p b 1
 |4=>v=.s x.name
 |5=>v=.p b 2
 |6=>v=.i x.ver
 |7=>v=.s (CF x.ver)
 |8=>SL X W.1.size v [⟨#[119,97,110,116]⟩,x.kind,x.name,CF x.ver]
 |9=>v=.s (Ix x)
 |10=>v=.int .u64 (Hl s (Ix x).data.toList)
 |_=>True
theorem qK{p0 p1 p2 p4 p6 p7 p8 p9 Eb Es Eh El D8 EU E9 Ez EV Fa Fb E8 Fc FM FD Fo Fz Fp Ft FC Fw Fy Fs Fu Fx Fq FE EY EP FQ GP GO Gj Gk Gm:Value}{mk:(Nat->Value)->Array Value}(t0:Nat->Value) (b:Nat) (s:Int) (x:Wt) (W:World) (hb0:b<W.1.size) (hc0:W.cell? ⟨b,0,none⟩=some (.s x.kind)) (hc1:W.cell? ⟨b,1,none⟩=some (.s x.name)) (hc2:W.cell? ⟨b,2,none⟩=some (.i x.ver)) (ht:L3 W) (_f0:(x.kind.size:Int)<=1048576) (_f1:(x.name.size:Int)<=1048576) (hv0:0<=x.ver) (hv1:x.ver<=9223372036854775807) (hl:((Gq [⟨#[119,97,110,116]⟩,x.kind,x.name,CF x.ver]).length:Int)<=1000000000000) (hz:((Ix x).size:Int)<=1099511627776) (hmk:mk=λt=>#[p0,p1,p2,.int .u64 s,p4,.p b 0,p6,p7,p8,p9,Eb,Es,Eh,El,D8,t 0,t 1,t 2,t 3,t 4,t 5,t 6,t 7,t 8,t 9,t 10,EU,E9,Ez,EV,Fa,Fb,E8,Fc,FM,FD,Fo,Fz,Fp,Ft,FC,Fw,Fy,Fs,Fu,Fx,Fq,FE,EY,EP,FQ,GP,GO,Gj,Gk,Gm]) (Q:Exit->Act->World->Prop) (hQ:∀(t:Nat->Value) X,Below W.1.size W X->Q .normal ⟨#[p0,p1,p2,.int .u64 (Hl s (Ix x).data.toList),p4,.p b 0,p6,p7,p8,p9,Eb,Es,Eh,El,D8,t 0,t 1,t 2,t 3,t 4,t 5,t 6,t 7,t 8,t 9,t 10,EU,E9,Ez,EV,Fa,Fb,E8,Fc,FM,FD,Fo,Fz,Fp,Ft,FC,Fw,Fy,Fs,Fu,Fx,Fq,FE,EY,EP,FQ,GP,GO,Gj,Gk,Gm],[]⟩ X):Code.wp prog (rg Tryz.f173 5) Q ⟨mk t0,[]⟩ W:=by
 refine Et Zc 11 mk t0 (mH b s x W) (λa X=>∃(t:Nat->Value),a=⟨#[p0,p1,p2,.int .u64 (Hl s (Ix x).data.toList),p4,.p b 0,p6,p7,p8,p9,Eb,Es,Eh,El,D8,t 0,t 1,t 2,t 3,t 4,t 5,t 6,t 7,t 8,t 9,t 10,EU,E9,Ez,EV,Fa,Fb,E8,Fc,FM,FD,Fo,Fz,Fp,Ft,FC,Fw,Fy,Fs,Fu,Fx,Fq,FE,EY,EP,FQ,GP,GO,Gj,Gk,Gm],[]⟩/\Below W.1.size W X) Zc Zc Zc ?_ rfl ?_ ?_ ?_;all_goals subst hmk
 .intro i v X Y hi h hb;rcases(show i=0\/i=1\/i=2\/i=3\/i=4\/i=5\/i=6\/i=7\/i=8\/i=9\/i=10 by omega)with rfl|rfl|rfl|rfl|rfl|rfl|rfl|rfl|rfl|rfl|rfl;.exact h
  .exact h
  .exact h
  .exact h
  .exact h
  .exact h
  .exact h
  .exact h
  .exact h.grow hb Bj
  .exact h
  .exact h
 .intro i hi t X K hb hg hK;rcases(show i=0\/i=1\/i=2\/i=3\/i=4\/i=5\/i=6\/i=7\/i=8\/i=9\/i=10 by omega)with rfl|rfl|rfl|rfl|rfl|rfl|rfl|rfl|rfl|rfl|rfl;.exact sg
  .exact sg
  .have ea:t 1=_:=hg 1 (AX rfl);exact Sc
  .exact sg
  .have ea:t 3=_:=hg 3 (AX rfl);exact Rx
  .exact sg
  .have ea:t 5=_:=hg 5 (AX rfl);exact Sp
  .have e6:t 6=_:=hg 6 (AX rfl);refine Am rfl rfl ?_;have HK:=Ai hK;clear hK hg;go_simp;go_at_call 195;refine(Nn x.ver hv0 hv1 X (ht.below hb)).mono ?_;rintro r Y ⟨rfl,hbY⟩;have h:=HK _ Y rfl hbY;simpa[AF,e6]using h
  .have e2:t 2=_:=hg 2 (AX rfl);have e4:t 4=_:=hg 4 (AX rfl);have e7:t 7=_:=hg 7 (AX rfl);have h:=hK (.l (some ⟨X.1.size,0,none⟩) 4 4) (X.alloc (.cells (KC [⟨#[119,97,110,116]⟩,x.kind,x.name,CF x.ver]).toArray 9)) ((jH X [⟨#[119,97,110,116]⟩,x.kind,x.name,CF x.ver]).mono hb.size) FU;refine Am rfl rfl ?_;clear hK hg;go_simp;simpa[AF,e2,e4,e7,KC]using h
  .have g:SL X W.1.size (t 8) [⟨#[119,97,110,116]⟩,x.kind,x.name,CF x.ver]:=hg 8 (AX rfl);refine Am rfl rfl ?_;have HK:=Ai hK;have HG:=Ai g;clear hK hg g;go_simp;go_at_call 194;refine(Mm W.1.size (t 8) [⟨#[119,97,110,116]⟩,x.kind,x.name,CF x.ver] X HG Ze hl).mono ?_;rintro r Y ⟨rfl,hbY⟩;have h:=HK _ Y rfl hbY;simpa[AF,Ix]using h
  .have e0:t 0=_:=hg 0 (AX rfl);have e9:t 9=_:=hg 9 (AX rfl);refine Am rfl rfl ?_;have HK:=Ai hK;clear hK hg;go_simp;go_at_call 193;refine(SH s (Ix x) X hz).mono ?_;rintro r Y ⟨rfl,rfl⟩;have h:=HK _ Y rfl BF;simpa[AF,e0,e9]using h
 .intro t X K hb hg hK;have e10:t 10=_:=hg 10 Za;have h:=hK ⟨#[p0,p1,p2,.int .u64 (Hl s (Ix x).data.toList),p4,.p b 0,p6,p7,p8,p9,Eb,Es,Eh,El,D8,t 0,t 1,t 2,t 3,t 4,t 5,t 6,t 7,t 8,t 9,t 10,EU,E9,Ez,EV,Fa,Fb,E8,Fc,FM,FD,Fo,Fz,Fp,Ft,FC,Fw,Fy,Fs,Fu,Fx,Fq,FE,EY,EP,FQ,GP,GO,Gj,Gk,Gm],[]⟩ X ⟨t,rfl,hb⟩;refine Am rfl rfl ?_;clear hK hg;go_simp;simpa[e10]using h
 .rintro a X ⟨t,rfl,hb⟩;exact hQ t X hb
end Go.Proofs.YtllmmkchokkaaaaGreatDoor
set_option maxRecDepth 100000
namespace Go.Proofs.YtllmmkchokkaaaaGreatDoor
open Go.RowKit Go.Proofs.Tryz
def dJ (b:Nat) (s:Int) (x:Wr) (W:World) (i:Nat) (v:Value) (X:World):Prop:=match i with
 |0=>v=.int .u64 s
 |1=>v=.p b 0
 |2=>v=.i x.op
 |3=>v=.s (CF x.op)
 |4=>v=.p b 1
 |5=>v=.s x.kind
 |6=>v=.p b 2
 |7=>v=.s x.name
 |8=>v=.p b 3
 |9=>v=.i x.seen
 |10=>v=.s (CF x.seen)
 |11=>v=.p b 4
 |12=>v=.s x.text
 |13=>v=.s ⟨(OC x.text).toArray⟩
 |14=>v=.p b 5
 |15=>v=.s x.hold
 |16=>SL X W.1.size v [⟨#[119,114,105,116,101]⟩,CF x.op,x.kind,x.name,CF x.seen,⟨(OC x.text).toArray⟩,x.hold]
 |17=>v=.s (IB x)
 |18=>v=.int .u64 (Hl s (IB x).data.toList)
 |_=>True
theorem kJ{p0 p1 p2 p4 p5 p6 p8 p9 Eb Es Eh El D8 Ej Ei EN EL EJ Ff Fe Fd Ev EK FA EU E9 Ez EV Fa Fb E8 Fc Gj Gk Gm:Value}{mk:(Nat->Value)->Array Value}(t0:Nat->Value) (b:Nat) (s:Int) (x:Wr) (W:World) (hb0:b<W.1.size) (hc0:W.cell? ⟨b,0,none⟩=some (.i x.op)) (hc1:W.cell? ⟨b,1,none⟩=some (.s x.kind)) (hc2:W.cell? ⟨b,2,none⟩=some (.s x.name)) (hc3:W.cell? ⟨b,3,none⟩=some (.i x.seen)) (hc4:W.cell? ⟨b,4,none⟩=some (.s x.text)) (hc5:W.cell? ⟨b,5,none⟩=some (.s x.hold)) (ht:L3 W) (ho0:0<=x.op) (ho1:x.op<=9223372036854775807) (hv0:0<=x.seen) (hv1:x.seen<=9223372036854775807) (hx:(x.text.size:Int)<=1099511627776) (hl:((Gq [⟨#[119,114,105,116,101]⟩,CF x.op,x.kind,x.name,CF x.seen,⟨(OC x.text).toArray⟩,x.hold]).length:Int)<=1000000000000) (hz:((IB x).size:Int)<=1099511627776) (hmk:mk=λt=>#[p0,p1,p2,.int .u64 s,p4,p5,p6,.p b 0,p8,p9,Eb,Es,Eh,El,D8,Ej,Ei,EN,EL,EJ,Ff,Fe,Fd,Ev,EK,FA,EU,E9,Ez,EV,Fa,Fb,E8,Fc,t 0,t 1,t 2,t 3,t 4,t 5,t 6,t 7,t 8,t 9,t 10,t 11,t 12,t 13,t 14,t 15,t 16,t 17,t 18,Gj,Gk,Gm]) (Q:Exit->Act->World->Prop) (hQ:∀(t:Nat->Value) X,Below W.1.size W X->Q .normal ⟨#[p0,p1,p2,.int .u64 (Hl s (IB x).data.toList),p4,p5,p6,.p b 0,p8,p9,Eb,Es,Eh,El,D8,Ej,Ei,EN,EL,EJ,Ff,Fe,Fd,Ev,EK,FA,EU,E9,Ez,EV,Fa,Fb,E8,Fc,t 0,t 1,t 2,t 3,t 4,t 5,t 6,t 7,t 8,t 9,t 10,t 11,t 12,t 13,t 14,t 15,t 16,t 17,t 18,Gj,Gk,Gm],[]⟩ X):Code.wp prog (rg Tryz.f173 10) Q ⟨mk t0,[]⟩ W:=by
 refine Et Zc 19 mk t0 (dJ b s x W) (λa X=>∃(t:Nat->Value),a=⟨#[p0,p1,p2,.int .u64 (Hl s (IB x).data.toList),p4,p5,p6,.p b 0,p8,p9,Eb,Es,Eh,El,D8,Ej,Ei,EN,EL,EJ,Ff,Fe,Fd,Ev,EK,FA,EU,E9,Ez,EV,Fa,Fb,E8,Fc,t 0,t 1,t 2,t 3,t 4,t 5,t 6,t 7,t 8,t 9,t 10,t 11,t 12,t 13,t 14,t 15,t 16,t 17,t 18,Gj,Gk,Gm],[]⟩/\Below W.1.size W X) Zc Zc Zc ?_ rfl ?_ ?_ ?_;all_goals subst hmk
 .intro i v X Y hi h hb;rcases(show i=0\/i=1\/i=2\/i=3\/i=4\/i=5\/i=6\/i=7\/i=8\/i=9\/i=10\/i=11\/i=12\/i=13\/i=14\/i=15\/i=16\/i=17\/i=18 by omega)with rfl|rfl|rfl|rfl|rfl|rfl|rfl|rfl|rfl|rfl|rfl|rfl|rfl|rfl|rfl|rfl|rfl|rfl|rfl;.exact h
  .exact h
  .exact h
  .exact h
  .exact h
  .exact h
  .exact h
  .exact h
  .exact h
  .exact h
  .exact h
  .exact h
  .exact h
  .exact h
  .exact h
  .exact h
  .exact h.grow hb Bj
  .exact h
  .exact h
 .intro i hi t X K hb hg hK;rcases(show i=0\/i=1\/i=2\/i=3\/i=4\/i=5\/i=6\/i=7\/i=8\/i=9\/i=10\/i=11\/i=12\/i=13\/i=14\/i=15\/i=16\/i=17\/i=18 by omega)with rfl|rfl|rfl|rfl|rfl|rfl|rfl|rfl|rfl|rfl|rfl|rfl|rfl|rfl|rfl|rfl|rfl|rfl|rfl;.exact sg
  .exact sg
  .have ea:t 1=_:=hg 1 (AX rfl);exact Sc
  .have e2:t 2=_:=hg 2 (AX rfl);refine Am rfl rfl ?_;have HK:=Ai hK;clear hK hg;go_simp;go_at_call 195;refine(Nn x.op ho0 ho1 X (ht.below hb)).mono ?_;rintro r Y ⟨rfl,hbY⟩;have h:=HK _ Y rfl hbY;simpa[AF,e2]using h
  .exact sg
  .have ea:t 4=_:=hg 4 (AX rfl);exact Rx
  .exact sg
  .have ea:t 6=_:=hg 6 (AX rfl);exact Sp
  .exact sg
  .have ea:t 8=_:=hg 8 (AX rfl);have c3:=(hb.cell (p:=⟨b,3,none⟩) hb0).trans hc3;exact sg
  .have e9:t 9=_:=hg 9 (AX rfl);refine Am rfl rfl ?_;have HK:=Ai hK;clear hK hg;go_simp;go_at_call 195;refine(Nn x.seen hv0 hv1 X (ht.below hb)).mono ?_;rintro r Y ⟨rfl,hbY⟩;have h:=HK _ Y rfl hbY;simpa[AF,e9]using h
  .exact sg
  .have ea:t 11=_:=hg 11 (AX rfl);have c4:=(hb.cell (p:=⟨b,4,none⟩) hb0).trans hc4;exact sg
  .have e12:t 12=_:=hg 12 (AX rfl);refine Am rfl rfl ?_;have HK:=Ai hK;clear hK hg;go_simp;go_at_call 196;refine(Qr x.text X hx).mono ?_;rintro r Y ⟨rfl,hbY⟩;have h:=HK _ Y rfl hbY;simpa[AF,e12]using h
  .exact sg
  .have ea:t 14=_:=hg 14 (AX rfl);have c5:=(hb.cell (p:=⟨b,5,none⟩) hb0).trans hc5;exact sg
  .have e3:t 3=_:=hg 3 (AX rfl);have e5:t 5=_:=hg 5 (AX rfl);have e7:t 7=_:=hg 7 (AX rfl);have e10:t 10=_:=hg 10 (AX rfl);have e13:t 13=_:=hg 13 (AX rfl);have e15:t 15=_:=hg 15 (AX rfl);have h:=hK (.l (some ⟨X.1.size,0,none⟩) 7 7) (X.alloc (.cells (KC [⟨#[119,114,105,116,101]⟩,CF x.op,x.kind,x.name,CF x.seen,⟨(OC x.text).toArray⟩,x.hold]).toArray 9)) ((jH X [⟨#[119,114,105,116,101]⟩,CF x.op,x.kind,x.name,CF x.seen,⟨(OC x.text).toArray⟩,x.hold]).mono hb.size) FU;refine Am rfl rfl ?_;clear hK hg;go_simp;simpa[AF,e3,e5,e7,e10,e13,e15,KC]using h
  .have g:SL X W.1.size (t 16) [⟨#[119,114,105,116,101]⟩,CF x.op,x.kind,x.name,CF x.seen,⟨(OC x.text).toArray⟩,x.hold]:=hg 16 (AX rfl);refine Am rfl rfl ?_;have HK:=Ai hK;have HG:=Ai g;clear hK hg g;go_simp;go_at_call 194;refine(Mm W.1.size (t 16) [⟨#[119,114,105,116,101]⟩,CF x.op,x.kind,x.name,CF x.seen,⟨(OC x.text).toArray⟩,x.hold] X HG Ze hl).mono ?_;rintro r Y ⟨rfl,hbY⟩;have h:=HK _ Y rfl hbY;simpa[AF,IB]using h
  .have e0:t 0=_:=hg 0 (AX rfl);have e17:t 17=_:=hg 17 (AX rfl);refine Am rfl rfl ?_;have HK:=Ai hK;clear hK hg;go_simp;go_at_call 193;refine(SH s (IB x) X hz).mono ?_;rintro r Y ⟨rfl,rfl⟩;have h:=HK _ Y rfl BF;simpa[AF,e0,e17]using h
 .intro t X K hb hg hK;have e18:t 18=_:=hg 18 Za;have h:=hK ⟨#[p0,p1,p2,.int .u64 (Hl s (IB x).data.toList),p4,p5,p6,.p b 0,p8,p9,Eb,Es,Eh,El,D8,Ej,Ei,EN,EL,EJ,Ff,Fe,Fd,Ev,EK,FA,EU,E9,Ez,EV,Fa,Fb,E8,Fc,t 0,t 1,t 2,t 3,t 4,t 5,t 6,t 7,t 8,t 9,t 10,t 11,t 12,t 13,t 14,t 15,t 16,t 17,t 18,Gj,Gk,Gm],[]⟩ X ⟨t,rfl,hb⟩;refine Am rfl rfl ?_;clear hK hg;go_simp;simpa[e18]using h
 .rintro a X ⟨t,rfl,hb⟩;exact hQ t X hb
end Go.Proofs.YtllmmkchokkaaaaGreatDoor
