import Derived.Test.YtofencldleijcaaGreatPk27
import Derived.Test.YtofencldleijcaaGreatPk32
import Derived.Test.YtofencldleijcaaGreatPk34
import Derived.Test.YtofencldleijcaaGreatPk25
import Derived.Test.YtofencldleijcaaGreatPk30
import Derived.Test.YtofencldleijcaaGreatPk29
import Derived.Test.YtofencldleijcaaGreatPk31
set_option maxRecDepth 100000
namespace Go.Proofs.YtofencldleijcaaGreat
open Go.RowKit Go.Maps Go.Proofs.Tryz
theorem Ue{P:Program}{id:Nat}{ops:Array Oper}{Q:Exit->Act->World->Prop}{a0:Act}{W:World}(hm:P.follows .mixedOrders=true)(n:Nat)(mk:(Nat->Value)->Array Value)(t0:Nat->Value)(E:World->Prop)(G:Nat->Value->World->Prop)(Z:Nat->Nat->Prop)(ZZ:Nat->Prop)(hn:ops.size=n)(hord:((List.range ops.size).all λi=>match ops[i]? with|some o=>o.after.all (λe=>!(Region.binds .any e)||decide (e.on<i))|none=>true)=true)(h0:a0=⟨mk t0,[]⟩)(hE:E W.drew)(hZ:∀i q,Z i q->ZZ q)(st:∀i j v X Y,i<n->j<n->¬i=j->E X->G j v X->AB (Z i) X Y->G j v Y)(sg:∀i,i<n->∀(t:Nat->Value) X K,AB ZZ W X->E X->(∀j,Cf ops i j->G j (t j) X)->(∀v Y,G i v Y->E Y->AB (Z i) X Y->K ⟨mk (AN t i v),[]⟩ Y)->wpOp P ops Q i K ⟨mk t,[]⟩ X)(hfin:∀t X,AB ZZ W X->E X->(∀j,j<n->G j (t j) X)->Q .normal ⟨mk t,[]⟩ X):(Code.region id ops true).wp P Q a0 W:=by
 refine ZX hm n mk t0 (λf t X=>AB ZZ W X/\E X/\∀i,i<n->f i=true->G i (t i) X) hn hord h0 ?_ ?_ ?_;.intro f hf;exact⟨Ap ((Al _ _).drew),hE,λi _ h=>by rw[hf]at h;cases h⟩
 .rintro i hi f t X K ⟨hb,hE',hG⟩ hfi hw hK;refine sg i hi t X K hb hE' (λj hj=>hG j ?_ (hw j hj)) (λv Y hv hEY hfY=>hK v Y (λg hgi hgj=>⟨hb.trans (hfY.mono (λq h=>hZ i q h)),hEY,λj hj h=>?_⟩))
  .obtain⟨o,ho,e,he,hbd,rfl⟩:=hj;have h1:=Bt.1 hord i (by rw[hn];simpa using hi);simp only[ho]at h1;have h2:=(A9.1 h1) e he;rw[hbd]at h2;have h3:e.on<i:=by simpa using h2
   omega
  .by_cases e:j=i;.subst e;rw[BE];exact hv
   .rw[BO e];rw[hgj j e]at h;exact st i j _ X Y hi hj (λq=>e q.symm) hE' (hG j hj h) hfY
 .rintro f t X hf ⟨hb,hE',hG⟩;exact hfin t X hb hE' (λj hj=>hG j hj (hf j hj))
theorem G7.fr{X Y:World}{z:Nat}{P:Nat->Prop}(h:G7 X z)(hf:AB P X Y)(hz:z<X.1.size)(hp:¬P z):G7 Y z:=λj s e=>h j s (by rw[<-hf.cell (p:=⟨z,j,none⟩) hz hp];exact e)
structure Bo (X:World)(z m:Nat):Prop where
 row:∃c,AM X z m c
 no:G7 X z
theorem Bo.lt{X:World}{z m:Nat}(h:Bo X z m):z<X.1.size:=by obtain⟨c,r⟩:=h.row;exact r.lt
theorem Bo.fr{X Y:World}{z m:Nat}{P:Nat->Prop}(h:Bo X z m)(hf:AB P X Y)(hp:¬P z):Bo Y z m:=by obtain⟨c,r⟩:=h.row;exact⟨⟨c,r.fr hf hp⟩,h.no.fr hf r.lt hp⟩
theorem aT{w:World}{g:Nat}{c:Nat->Value}{u0 u1 u2:Value}(h:AM w g 3 c):AM (((w.setCell ⟨g,0,none⟩ u0).setCell ⟨g,1,none⟩ u1).setCell ⟨g,2,none⟩ u2) g 3 (A7 [u0,u1,u2]):=by have r:=((h.set (o:=0) Zb u0).set (o:=1) Zb u1).set (o:=2) Zb u2;refine⟨r.lt,r.free,λj hj=>(r.cell j hj).trans (congrArg some ?_)⟩;rcases(show j=0\/j=1\/j=2 by omega)with rfl|rfl|rfl<;>rfl
theorem kT{w:World}{z:Nat}(u0 u1 u2:Value):AB (λq=>q=z) w (((w.setCell ⟨z,0,none⟩ u0).setCell ⟨z,1,none⟩ u1).setCell ⟨z,2,none⟩ u2):=(((AB.refl (λq=>q=z) w).setCell (p:=⟨z,0,none⟩) rfl u0).setCell (p:=⟨z,1,none⟩) rfl u1).setCell (p:=⟨z,2,none⟩) rfl u2
theorem Bo.set5{w:World}{z:Nat}{v0 v1 v2 v3 v4:Value}(h:Bo w z 5)(h0:∀s,¬v0=.s s)(h1:∀s,¬v1=.s s)(h2:∀s,¬v2=.s s)(h3:∀s,¬v3=.s s)(h4:∀s,¬v4=.s s):Bo (((((w.setCell ⟨z,0,none⟩ v0).setCell ⟨z,1,none⟩ v1).setCell ⟨z,2,none⟩ v2).setCell ⟨z,3,none⟩ v3).setCell ⟨z,4,none⟩ v4) z 5:=by obtain⟨c,r⟩:=h.row;have r0:=r.set (o:=0) Zb v0;have r1:=r0.set (o:=1) Zb v1;have r2:=r1.set (o:=2) Zb v2;have r3:=r2.set (o:=3) Zb v3;exact⟨⟨_,Vu r⟩,((((h.no.set (r.cell 0 Zb) h0).set (r0.cell 1 Zb) h1).set (r1.cell 2 Zb) h2).set (r2.cell 3 Zb) h3).set (r3.cell 4 Zb) h4⟩
theorem Bo.set3{w:World}{z:Nat}{u0 u1 u2:Value}(h:Bo w z 3)(h0:∀s,¬u0=.s s)(h1:∀s,¬u1=.s s)(h2:∀s,¬u2=.s s):Bo (((w.setCell ⟨z,0,none⟩ u0).setCell ⟨z,1,none⟩ u1).setCell ⟨z,2,none⟩ u2) z 3:=by obtain⟨c,r⟩:=h.row;have r0:=r.set (o:=0) Zb u0;have r1:=r0.set (o:=1) Zb u1;exact⟨⟨_,aT r⟩,((h.no.set (r.cell 0 Zb) h0).set (r0.cell 1 Zb) h1).set (r1.cell 2 Zb) h2⟩
theorem OU{Q:Ending->World->Prop}{tmps:Array Value}{W:World}{A B:Nat}{v0 v1 v2 v3 v4 u0 u1 u2:Value}(hr:AM W A 5 (A7 [v0,v1,v2,v3,v4]))(hs:AM W B 3 (A7 [u0,u1,u2]))(h4:tmps[4]?.getD undef=.p A 0)(h5:tmps[5]?.getD undef=.p B 0)(hQ:Q (.returned (.tuple #[.agg #[v0,v1,v2,v3,v4],.agg #[u0,u1,u2]])) W):bodyPost prog Tryz.f36 Q .ret ⟨tmps,[]⟩ W:=by obtain⟨c0,c1,c2,c3,c4⟩:=VL hr;obtain⟨e0,e1,e2⟩:=rQ hs;exact bodyPost_ret (v:=.tuple #[.agg #[v0,v1,v2,v3,v4],.agg #[u0,u1,u2]]) (by simp only[results,results36];simp[go_sem,h4,h5,c0,c1,c2,c3,c4,e0,e1,e2]) rfl hQ
def iA (S:Sa)(Y:Bk)(w:World)(e:Ending)(w':World):Prop:=Below w.1.size w w'/\∃(a1 a2 a3:OA)(c1 c2 c3:Nat),e=.returned (.tuple #[.agg (vB Y a1 a2 a3 c1 c2 c3),.agg (vS S)])/\B7 w' 0 w'.1.size Y a1 a2 a3/\E4 w' Y.tn a3 c3
structure A8 (W:World)(s0:Nat)(B:Bk)(c:Ca)(a1 a2 a3:OA)(c1 c2 c3:Nat)(u1 u2:OA)(d1 d2:Nat):Prop where
 bk:D4 W s0 (Mu B a1 a2 a3 c1 c2 c3)ca:D4 W (s0+1) (rJ c u1 u2 d1 d2)an:Bo W (s0+1+1) 5
 sd:Bo W (s0+1+1+1) 3
 bin:B7 W 0 s0 B a1 a2 a3
 uin:Fl W 0 s0 c.bu u1 u2
theorem A8.lt{W:World}{s0:Nat}{B:Bk}{c:Ca}{a1 a2 a3:OA}{c1 c2 c3:Nat}{u1 u2:OA}{d1 d2:Nat}(h:A8 W s0 B c a1 a2 a3 c1 c2 c3 u1 u2 d1 d2):s0+1+1+1<W.1.size:=h.sd.lt
theorem A8.below{W W':World}{s0:Nat}{B:Bk}{c:Ca}{a1 a2 a3:OA}{c1 c2 c3:Nat}{u1 u2:OA}{d1 d2:Nat}(h:A8 W s0 B c a1 a2 a3 c1 c2 c3 u1 u2 d1 d2)(hb:Below W.1.size W W'):A8 W' s0 B c a1 a2 a3 c1 c2 c3 u1 u2 d1 d2:=by have hz:=h.lt;exact⟨h.bk.below hb Zb,h.ca.below hb Zb,h.an.fr (Ap (P:=λ_=>False) hb) (λq=>q),h.sd.fr (Ap (P:=λ_=>False) hb) (λq=>q),h.bin.below hb Zb,h.uin.below hb Zb⟩
theorem SD (w:World)(B:Bk)(c:Ca)(a1 a2 a3:OA)(c1 c2 c3:Nat)(u1 u2:OA)(d1 d2:Nat)(hb:B7 w 0 w.1.size B a1 a2 a3)(hu:Fl w 0 w.1.size c.bu u1 u2):A8 ((((w.alloc (.cells (vB B a1 a2 a3 c1 c2 c3) 27)).alloc (.cells (vC c u1 u2 d1 d2) 91)).alloc (.cells #[.i 0,.i 0,.l none 0 0,.l none 0 0,.l none 0 0] 27)).alloc (.cells #[.i 0,.i 0,.bool false] 83)) w.1.size B c a1 a2 a3 c1 c2 c3 u1 u2 d1 d2/\Below w.1.size w ((((w.alloc (.cells (vB B a1 a2 a3 c1 c2 c3) 27)).alloc (.cells (vC c u1 u2 d1 d2) 91)).alloc (.cells #[.i 0,.i 0,.l none 0 0,.l none 0 0,.l none 0 0] 27)).alloc (.cells #[.i 0,.i 0,.bool false] 83)):=by
 have hB:Below w.1.size w ((((w.alloc (.cells (vB B a1 a2 a3 c1 c2 c3) 27)).alloc (.cells (vC c u1 u2 d1 d2) 91)).alloc (.cells #[.i 0,.i 0,.l none 0 0,.l none 0 0,.l none 0 0] 27)).alloc (.cells #[.i 0,.i 0,.bool false] 83)):=((((Al _ _).alloc Bg _).alloc Zc _).alloc Zd _).alloc Zd _;have n4:∀j,((((w.alloc (.cells (vB B a1 a2 a3 c1 c2 c3) 27)).alloc (.cells (vC c u1 u2 d1 d2) 91)).alloc (.cells #[.i 0,.i 0,.l none 0 0,.l none 0 0,.l none 0 0] 27)).alloc (.cells #[.i 0,.i 0,.bool false] 83)).cell? ⟨w.1.size+1+1+1,j,none⟩=(#[.i 0,.i 0,.bool false]:Array Value)[j]?:=λj=>by have:=Ao (((w.alloc (.cells (vB B a1 a2 a3 c1 c2 c3) 27)).alloc (.cells (vC c u1 u2 d1 d2) 91)).alloc (.cells #[.i 0,.i 0,.l none 0 0,.l none 0 0,.l none 0 0] 27)) #[.i 0,.i 0,.bool false] 83 j;simpa using this
 have p3:∀b j:Nat,b<w.1.size+1+1+1->((((w.alloc (.cells (vB B a1 a2 a3 c1 c2 c3) 27)).alloc (.cells (vC c u1 u2 d1 d2) 91)).alloc (.cells #[.i 0,.i 0,.l none 0 0,.l none 0 0,.l none 0 0] 27)).alloc (.cells #[.i 0,.i 0,.bool false] 83)).cell? ⟨b,j,none⟩=(((w.alloc (.cells (vB B a1 a2 a3 c1 c2 c3) 27)).alloc (.cells (vC c u1 u2 d1 d2) 91)).alloc (.cells #[.i 0,.i 0,.l none 0 0,.l none 0 0,.l none 0 0] 27)).cell? ⟨b,j,none⟩:=λb j hp=>by rw[Aq _ _ _ (by simpa using hp)]
 have n3:∀j,((((w.alloc (.cells (vB B a1 a2 a3 c1 c2 c3) 27)).alloc (.cells (vC c u1 u2 d1 d2) 91)).alloc (.cells #[.i 0,.i 0,.l none 0 0,.l none 0 0,.l none 0 0] 27)).alloc (.cells #[.i 0,.i 0,.bool false] 83)).cell? ⟨w.1.size+1+1,j,none⟩=(#[.i 0,.i 0,.l none 0 0,.l none 0 0,.l none 0 0]:Array Value)[j]?:=λj=>by rw[p3 _ _ Zb];have:=Ao ((w.alloc (.cells (vB B a1 a2 a3 c1 c2 c3) 27)).alloc (.cells (vC c u1 u2 d1 d2) 91)) #[.i 0,.i 0,.l none 0 0,.l none 0 0,.l none 0 0] 27 j;simpa using this
 have n2:∀j,((((w.alloc (.cells (vB B a1 a2 a3 c1 c2 c3) 27)).alloc (.cells (vC c u1 u2 d1 d2) 91)).alloc (.cells #[.i 0,.i 0,.l none 0 0,.l none 0 0,.l none 0 0] 27)).alloc (.cells #[.i 0,.i 0,.bool false] 83)).cell? ⟨w.1.size+1,j,none⟩=((vC c u1 u2 d1 d2):Array Value)[j]?:=λj=>by rw[p3 _ _ Zb,Aq _ _ _ Zc];have:=Ao (w.alloc (.cells (vB B a1 a2 a3 c1 c2 c3) 27)) (vC c u1 u2 d1 d2) 91 j;simp
 have n1:∀j,((((w.alloc (.cells (vB B a1 a2 a3 c1 c2 c3) 27)).alloc (.cells (vC c u1 u2 d1 d2) 91)).alloc (.cells #[.i 0,.i 0,.l none 0 0,.l none 0 0,.l none 0 0] 27)).alloc (.cells #[.i 0,.i 0,.bool false] 83)).cell? ⟨w.1.size,j,none⟩=((vB B a1 a2 a3 c1 c2 c3):Array Value)[j]?:=λj=>by rw[p3 _ _ Zb,Aq _ _ _ Zd,Aq _ _ _ Zc];exact Ao w (vB B a1 a2 a3 c1 c2 c3) 27 j
 refine⟨⟨λj hj=>?_,λj hj=>?_,⟨⟨_,AM.below (AM.new (w:=((w.alloc (.cells (vB B a1 a2 a3 c1 c2 c3) 27)).alloc (.cells (vC c u1 u2 d1 d2) 91))) (l:=[.i 0,.i 0,.l none 0 0,.l none 0 0,.l none 0 0]) (t:=27) Ck) EC Zc|>λr=>by simpa using r⟩,λj s e=>?_⟩,⟨⟨_,by have r:=AM.new (w:=(((w.alloc (.cells (vB B a1 a2 a3 c1 c2 c3) 27)).alloc (.cells (vC c u1 u2 d1 d2) 91)).alloc (.cells #[.i 0,.i 0,.l none 0 0,.l none 0 0,.l none 0 0] 27))) (l:=[.i 0,.i 0,.bool false]) (t:=83) Ck;simpa using r⟩,λj s e=>?_⟩,hb.below hB Bg,hu.below hB Bg⟩,hB⟩;.rw[n1 j];rcases(show j=0\/j=1\/j=2\/j=3\/j=4 by simp at hj;omega)with rfl|rfl|rfl|rfl|rfl<;>rfl
 .rw[n2 j];rcases(show j=0\/j=1\/j=2\/j=3 by simp at hj;omega)with rfl|rfl|rfl|rfl<;>rfl
 .rw[n3]at e;match j,e with
  |0,e=>cases e
  |1,e=>cases e
  |2,e=>cases e
  |3,e=>cases e
  |4,e=>cases e
  |n+5,e=>simp at e
 .rw[n4]at e;match j,e with
  |0,e=>cases e
  |1,e=>cases e
  |2,e=>cases e
  |n+3,e=>simp at e
theorem A8.done{W:World}{s0:Nat}{B:Bk}{c:Ca}{a1 a2 a3:OA}{c1 c2 c3:Nat}{u1 u2:OA}{d1 d2:Nat}(h:A8 W s0 B c a1 a2 a3 c1 c2 c3 u1 u2 d1 d2){w:World}(hw:Below w.1.size w W)(hs:w.1.size=s0)(v0 v1 v2 v3 v4 u0 u1 u2:Value):AM ((((((((W.setCell ⟨s0+1+1,0,none⟩ v0).setCell ⟨s0+1+1,1,none⟩ v1).setCell ⟨s0+1+1,2,none⟩ v2).setCell ⟨s0+1+1,3,none⟩ v3).setCell ⟨s0+1+1,4,none⟩ v4).setCell ⟨s0+1+1+1,0,none⟩ u0).setCell ⟨s0+1+1+1,1,none⟩ u1).setCell ⟨s0+1+1+1,2,none⟩ u2) (s0+1+1) 5 (A7 [v0,v1,v2,v3,v4])/\AM ((((((((W.setCell ⟨s0+1+1,0,none⟩ v0).setCell ⟨s0+1+1,1,none⟩ v1).setCell ⟨s0+1+1,2,none⟩ v2).setCell ⟨s0+1+1,3,none⟩ v3).setCell ⟨s0+1+1,4,none⟩ v4).setCell ⟨s0+1+1+1,0,none⟩ u0).setCell ⟨s0+1+1+1,1,none⟩ u1).setCell ⟨s0+1+1+1,2,none⟩ u2) (s0+1+1+1) 3 (A7 [u0,u1,u2])/\Below w.1.size w ((((((((W.setCell ⟨s0+1+1,0,none⟩ v0).setCell ⟨s0+1+1,1,none⟩ v1).setCell ⟨s0+1+1,2,none⟩ v2).setCell ⟨s0+1+1,3,none⟩ v3).setCell ⟨s0+1+1,4,none⟩ v4).setCell ⟨s0+1+1+1,0,none⟩ u0).setCell ⟨s0+1+1+1,1,none⟩ u1).setCell ⟨s0+1+1+1,2,none⟩ u2)/\(∀{X:Bk}{b1 b2 b3:OA},B7 W 0 s0 X b1 b2 b3->B7 ((((((((W.setCell ⟨s0+1+1,0,none⟩ v0).setCell ⟨s0+1+1,1,none⟩ v1).setCell ⟨s0+1+1,2,none⟩ v2).setCell ⟨s0+1+1,3,none⟩ v3).setCell ⟨s0+1+1,4,none⟩ v4).setCell ⟨s0+1+1+1,0,none⟩ u0).setCell ⟨s0+1+1+1,1,none⟩ u1).setCell ⟨s0+1+1+1,2,none⟩ u2) 0 ((((((((W.setCell ⟨s0+1+1,0,none⟩ v0).setCell ⟨s0+1+1,1,none⟩ v1).setCell ⟨s0+1+1,2,none⟩ v2).setCell ⟨s0+1+1,3,none⟩ v3).setCell ⟨s0+1+1,4,none⟩ v4).setCell ⟨s0+1+1+1,0,none⟩ u0).setCell ⟨s0+1+1+1,1,none⟩ u1).setCell ⟨s0+1+1+1,2,none⟩ u2).1.size X b1 b2 b3):=by obtain⟨c5,r5⟩:=h.an.row;obtain⟨c3',r3⟩:=h.sd.row;have F5:=eZ (w:=W) (z:=s0+1+1) v0 v1 v2 v3 v4;have F3:=kT (w:=(((((W.setCell ⟨s0+1+1,0,none⟩ v0).setCell ⟨s0+1+1,1,none⟩ v1).setCell ⟨s0+1+1,2,none⟩ v2).setCell ⟨s0+1+1,3,none⟩ v3).setCell ⟨s0+1+1,4,none⟩ v4)) (z:=s0+1+1+1) u0 u1 u2;have hz:=hw.size;have B5:Below s0 W ((((((((W.setCell ⟨s0+1+1,0,none⟩ v0).setCell ⟨s0+1+1,1,none⟩ v1).setCell ⟨s0+1+1,2,none⟩ v2).setCell ⟨s0+1+1,3,none⟩ v3).setCell ⟨s0+1+1,4,none⟩ v4).setCell ⟨s0+1+1+1,0,none⟩ u0).setCell ⟨s0+1+1+1,1,none⟩ u1).setCell ⟨s0+1+1+1,2,none⟩ u2):=(F5.below (λq hq e=>by have e':q=s0+1+1:=e;omega) Zb).trans (F3.below (λq hq e=>by have e':q=s0+1+1+1:=e;omega) iW);exact⟨(Vu r5).fr F3 (λe=>by have e':s0+1+1=s0+1+1+1:=e;omega),aT (r3.fr F5 (λe=>by have e':s0+1+1+1=s0+1+1:=e;omega)),by subst hs;exact hw.trans B5,λ{X b1 b2 b3}hX=>(hX.below B5 Bg).upTo iW⟩
end Go.Proofs.YtofencldleijcaaGreat
namespace Go.Proofs.YtofencldleijcaaGreat
open Go.RowKit Go.Proofs.Tryz
theorem Rd.keep{w X Y:World}{R:Nat}{ad:OA}{n cap p0 p:Nat}(hW:Rd w R ad n cap p0)(hX:Rd X R ad n cap p)(hf:AB (λq=>q=R) w Y)(hx:AB (λq=>¬q=R) X Y):Rd Y R ad n cap p:=by have e:∀j,Y.cell? ⟨R,j,none⟩=X.cell? ⟨R,j,none⟩:=λj=>hx.cell (p:=⟨R,j,none⟩) hX.lt (λh=>h rfl);refine⟨(e 0).trans hX.c0,(e 1).trans hX.c1,(hx.frozen (p:=⟨R,1,none⟩) hX.lt (λh=>h rfl)).trans hX.f1,Ad hX.lt hx.size,hX.n2,λi hi=>?_,λj s h=>hX.ns j s ((e j).symm.trans h)⟩;obtain⟨b,off,v,h1,h2,h3,h4,h5,h6⟩:=hW.bt i hi;exact⟨b,off,v,h1,Ad h2 hf.size,h3,(hf.cell (p:=⟨b,off+i,none⟩) h2 h3).trans h4,h5,h6⟩
structure iV (v:Wt):Prop where
 fit:dN v
 v1:v.ver<=9223372036854775807
structure RH (x:Bu):Prop where
 w:x.wn<=100
 r:x.rn<=100
 ws:∀i,i<x.wn->iV (x.ws i)rs:∀i,i<x.rn->OE (x.rs i)
theorem RH.fit{x:Bu}(h:RH x):Ku x:=⟨by have:=h.w;omega,by have:=h.r;omega,λi hi=>(h.ws i hi).fit,λi hi=>(h.rs i hi).fit⟩
theorem RH.int{x:Bu}(h:RH x):OX x:=⟨λi hi=>(h.ws i hi).v1,λi hi=>(h.rs i hi).s1⟩
def Wf (x:Bu)(v:Wt):Bu:=⟨x.wn+1,KP x.ws x.wn v,x.rn,x.rs⟩
def TC (x:Bu)(v:Wr):Bu:=⟨x.wn,x.ws,x.rn+1,KP x.rs x.rn v⟩
theorem RH.addT{x:Bu}{v:Wt}(h:RH x)(hv:iV v)(hn:x.wn<100):RH (Wf x v):=⟨hn,h.r,λi hi=>by
 show iV (if i<x.wn then x.ws i else v);split;.exact h.ws i ‹_›
 .exact hv,h.rs⟩
theorem RH.addR{x:Bu}{v:Wr}(h:RH x)(hv:OE v)(hn:x.rn<100):RH (TC x v):=⟨h.w,hn,h.ws,λi hi=>by
 show OE (if i<x.rn then x.rs i else v);split;.exact h.rs i ‹_›
 .exact hv⟩
structure Om (w:World)(B:Bk)(R:Nat)(ad:OA)(nn cap p:Nat)(a1 a2 a3:OA)(c1 c2 c3:Nat)(x:Bu)(u1 u2:OA)(d1 d2 g1 g2:Nat)(X:World):Prop where
 f:AB (λq=>q=R) w X
 r:Rd X R ad nn cap p
 s:AM X w.1.size 5 (A7 (Mu B a1 a2 a3 c1 c2 c3))a:AM X (w.1.size+1) 2 (A7 [.l none 0 0,.l none 0 0])u:AM X (w.1.size+1+1) 2 (A7 (iZ x u1 u2 d1 d2))w1:Rw X u1 g1 x.wn d1 3 (bD x.ws)w2:Rw X u2 g2 x.rn d2 6 (LH x.rs)h1:0<d1->w.1.size+1+1+1<=g1
 h2:0<d2->w.1.size+1+1+1<=g2/\Mq X g2 (x.rn*6)ne:0<d1->0<d2->¬g1=g2
 i:RH x
 un:G7 X (w.1.size+1+1)
theorem Om.fr{w:World}{B:Bk}{R:Nat}{ad:OA}{nn cap p:Nat}{a1 a2 a3:OA}{c1 c2 c3:Nat}{x:Bu}{u1 u2:OA}{d1 d2 g1 g2:Nat}{X:World}{Y:World}{p0 p':Nat}{P:Nat->Prop}(h:Om w B R ad nn cap p a1 a2 a3 c1 c2 c3 x u1 u2 d1 d2 g1 g2 X)(hw:Rd w R ad nn cap p0)(hf:AB P X Y)(hP:∀q,q<w.1.size+1+1+1->P q->q=R)(hP1:0<d1->¬P g1)(hP2:0<d2->¬P g2)(hr:Rd Y R ad nn cap p'):Om w B R ad nn cap p' a1 a2 a3 c1 c2 c3 x u1 u2 d1 d2 g1 g2 Y:=by have hl:=h.u.lt;have hR:=hw.lt;have no:∀q,q<w.1.size+1+1+1->¬q=R->¬P q:=λq h1 h2 h3=>h2 (hP q h1 h3);refine⟨⟨hf.os.trans h.f.os,hf.tape.trans h.f.tape,hf.output.trans h.f.output,AG h.f.size hf.size,λk hk hn=>(hf.block k (Ad hk h.f.size) (no k Zb hn)).trans (h.f.block k hk hn)⟩,hr,h.s.fr hf (no _ Zb Zb),h.a.fr hf (no _ Zb Zb),h.u.fr hf (no _ Zb Zb),h.w1.fr hf hP1,h.w2.fr hf hP2,h.h1,λh0=>⟨(h.h2 h0).1,(h.h2 h0).2.fr hf (hP2 h0) (h.w2.room h0).lt⟩,h.ne,h.i,h.un.fr hf hl (no _ Zb Zb)⟩
theorem Om.pick{w:World}{B:Bk}{R:Nat}{ad:OA}{nn cap p:Nat}{a1 a2 a3:OA}{c1 c2 c3:Nat}{x:Bu}{u1 u2:OA}{d1 d2 g1 g2:Nat}{X:World}{Y:World}{p0 p':Nat}(h:Om w B R ad nn cap p a1 a2 a3 c1 c2 c3 x u1 u2 d1 d2 g1 g2 X)(hw:Rd w R ad nn cap p0)(hf:AB (λq=>q=R) X Y)(hr:Rd Y R ad nn cap p'):Om w B R ad nn cap p' a1 a2 a3 c1 c2 c3 x u1 u2 d1 d2 g1 g2 Y:=by have hR:=hw.lt;exact h.fr hw hf (λ_ _ e=>e) (λh0 e=>by have:=h.h1 h0;omega) (λh0 e=>by have:=(h.h2 h0).1;omega) hr
theorem Om.below{w:World}{B:Bk}{R:Nat}{ad:OA}{nn cap p:Nat}{a1 a2 a3:OA}{c1 c2 c3:Nat}{x:Bu}{u1 u2:OA}{d1 d2 g1 g2:Nat}{X:World}{Y:World}{p0:Nat}(h:Om w B R ad nn cap p a1 a2 a3 c1 c2 c3 x u1 u2 d1 d2 g1 g2 X)(hw:Rd w R ad nn cap p0)(hb:Below X.1.size X Y):Om w B R ad nn cap p a1 a2 a3 c1 c2 c3 x u1 u2 d1 d2 g1 g2 Y:=h.pick hw (Ap hb) (h.r.below hb)
theorem Om.box{w:World}{B:Bk}{R:Nat}{ad:OA}{nn cap p:Nat}{a1 a2 a3:OA}{c1 c2 c3:Nat}{x:Bu}{u1 u2:OA}{d1 d2 g1 g2:Nat}{X:World}{Y:World}{p0 z:Nat}(h:Om w B R ad nn cap p a1 a2 a3 c1 c2 c3 x u1 u2 d1 d2 g1 g2 X)(hw:Rd w R ad nn cap p0)(hf:AB (λq=>q=z) X Y)(hz:w.1.size+1+1+1<=z)(z1:0<d1->¬z=g1)(z2:0<d2->¬z=g2):Om w B R ad nn cap p a1 a2 a3 c1 c2 c3 x u1 u2 d1 d2 g1 g2 Y:=by have hR:=hw.lt;have hf2:AB (λq=>q=R) w Y:=⟨hf.os.trans h.f.os,hf.tape.trans h.f.tape,hf.output.trans h.f.output,AG h.f.size hf.size,λk hk hn=>(hf.block k (Ad hk h.f.size) Zb).trans (h.f.block k hk hn)⟩;exact h.fr hw hf (λq h1 h2=>by omega) (λh0 e=>z1 h0 e.symm) (λh0 e=>z2 h0 e.symm) (hw.keep h.r hf2 (hf.mono (λk hk e=>by omega)))
theorem Om.addT{w:World}{B:Bk}{R:Nat}{ad:OA}{nn cap p:Nat}{a1 a2 a3:OA}{c1 c2 c3:Nat}{x:Bu}{u1 u2:OA}{d1 d2 g1 g2:Nat}{X:World}{Y:World}{p0:Nat}{v:Wt}{u1':OA}{d1' g1':Nat}(h:Om w B R ad nn cap p a1 a2 a3 c1 c2 c3 x u1 u2 d1 d2 g1 g2 X)(hw:Rd w R ad nn cap p0)(hf:AB (λq=>0<d1/\q=g1) X Y)(hr:Rw Y u1' g1' (x.wn+1) d1' 3 (Cd (bD x.ws) (x.wn*3) (A7 (TE v))))(hg:(0<d1/\g1'=g1)\/X.1.size<=g1')(hv:iV v)(hn:x.wn<100):Om w B R ad nn cap p a1 a2 a3 c1 c2 c3 (Wf x v) u1' u2 d1' d2 g1' g2 (Y.setCell ⟨w.1.size+1+1,0,none⟩ (.l u1' (x.wn+1) d1')):=by
 have hR:=hw.lt;have hl:=h.u.lt;have hw2:∀h0:0<d2,g2<X.1.size:=λh0=>(h.w2.room h0).lt;have f1:AB (λq=>q=R) w Y:=⟨hf.os.trans h.f.os,hf.tape.trans h.f.tape,hf.output.trans h.f.output,AG h.f.size hf.size,λk hk hn=>(hf.block k (Ad hk h.f.size) (λe=>by have:=h.h1 e.1;omega)).trans (h.f.block k hk hn)⟩;have r1:Rd Y R ad nn cap p:=hw.keep h.r f1 (hf.mono (λk hk e=>by have:=h.h1 hk.1;omega));have F:=(AB.refl (λq=>q=w.1.size+1+1) Y).setCell (p:=⟨w.1.size+1+1,0,none⟩) rfl (.l u1' (x.wn+1) d1');have f2:=f1.far (z:=w.1.size+1+1) Zb 0 (.l u1' (x.wn+1) d1');have S:=h.s.fr hf (λe=>by have:=h.h1 e.1;omega);have A:=h.a.fr hf (λe=>by have:=h.h1 e.1;omega);have U:=h.u.fr hf (λe=>by have:=h.h1 e.1;omega);have W2:=h.w2.fr hf (λh0 e=>h.ne e.1 h0 e.2.symm);have gl:0<d1'->w.1.size+1+1+1<=g1':=λ_=>by
  rcases hg with⟨h0,e⟩|e;.have:=h.h1 h0;omega
  .omega
 refine⟨f2,hw.far r1 Zb _ _,S.fr F Zb,A.fr F Zb,(U.set (o:=0) Zb _).congr (λj hj=>?_),⟨hr.addr,hr.le,λh0=>(hr.fr F (λh0=>by have:=gl h0;omega)).room h0,λj hj=>by show _=some (bD (KP x.ws x.wn v) j);rw[<-fH x.ws x.wn v j hj];exact(hr.fr F (λh0=>by have:=gl h0;omega)).cell j hj⟩,W2.fr F (λh0=>by have:=(h.h2 h0).1;omega),gl,λh0=>⟨(h.h2 h0).1,((h.h2 h0).2.fr hf (λe=>h.ne e.1 h0 e.2.symm) (hw2 h0)).fr F (by have:=(h.h2 h0).1;omega) (W2.room h0).lt⟩,λ_ h0=>?_,h.i.addT hv hn,(h.un.fr hf hl (λe=>by have:=h.h1 e.1;omega)).set (U.cell 0 Za) (λs e=>by cases e)⟩;.rcases(show j=0\/j=1 by omega)with rfl|rfl<;>rfl
 .rcases hg with⟨h1,e⟩|e;.rw[e];exact h.ne h1 h0
  .have:=hw2 h0;omega
theorem Om.addR{w:World}{B:Bk}{R:Nat}{ad:OA}{nn cap p:Nat}{a1 a2 a3:OA}{c1 c2 c3:Nat}{x:Bu}{u1 u2:OA}{d1 d2 g1 g2:Nat}{X:World}{Y:World}{p0:Nat}{v:Wr}{u2':OA}{d2' g2':Nat}(h:Om w B R ad nn cap p a1 a2 a3 c1 c2 c3 x u1 u2 d1 d2 g1 g2 X)(hw:Rd w R ad nn cap p0)(hf:AB (λq=>0<d2/\q=g2) X Y)(hr:Rw Y u2' g2' (x.rn+1) d2' 6 (LH (KP x.rs x.rn v)))(hp:Mq Y g2' ((x.rn+1)*6))(hg:(0<d2/\g2'=g2)\/X.1.size<=g2')(hv:OE v)(hn:x.rn<100):Om w B R ad nn cap p a1 a2 a3 c1 c2 c3 (TC x v) u1 u2' d1 d2' g1 g2' (Y.setCell ⟨w.1.size+1+1,1,none⟩ (.l u2' (x.rn+1) d2')):=by
 have hR:=hw.lt;have hl:=h.u.lt;have hw1:∀h0:0<d1,g1<X.1.size:=λh0=>(h.w1.room h0).lt;have f1:AB (λq=>q=R) w Y:=⟨hf.os.trans h.f.os,hf.tape.trans h.f.tape,hf.output.trans h.f.output,AG h.f.size hf.size,λk hk hn=>(hf.block k (Ad hk h.f.size) (λe=>by have:=(h.h2 e.1).1;omega)).trans (h.f.block k hk hn)⟩;have r1:Rd Y R ad nn cap p:=hw.keep h.r f1 (hf.mono (λk hk e=>by have:=(h.h2 hk.1).1;omega));have F:=(AB.refl (λq=>q=w.1.size+1+1) Y).setCell (p:=⟨w.1.size+1+1,1,none⟩) rfl (.l u2' (x.rn+1) d2');have f2:=f1.far (z:=w.1.size+1+1) Zb 1 (.l u2' (x.rn+1) d2');have S:=h.s.fr hf (λe=>by have:=(h.h2 e.1).1;omega);have A:=h.a.fr hf (λe=>by have:=(h.h2 e.1).1;omega);have U:=h.u.fr hf (λe=>by have:=(h.h2 e.1).1;omega);have W1:=h.w1.fr hf (λh0 e=>h.ne h0 e.1 e.2);have gl:0<d2'->w.1.size+1+1+1<=g2':=λ_=>by
  rcases hg with⟨h0,e⟩|e;.have:=(h.h2 h0).1;omega
  .omega
 refine⟨f2,hw.far r1 Zb _ _,S.fr F Zb,A.fr F Zb,(U.set (o:=1) Zb _).congr (λj hj=>?_),W1.fr F (λh0=>by have:=h.h1 h0;omega),hr.fr F (λh0=>by have:=gl h0;omega),h.h1,λh0=>⟨gl h0,hp.fr F (by have:=gl h0;omega) (hr.room h0).lt⟩,λh0 _=>?_,h.i.addR hv hn,(h.un.fr hf hl (λe=>by have:=(h.h2 e.1).1;omega)).set (U.cell 1 Za) (λs e=>by cases e)⟩;.rcases(show j=0\/j=1 by omega)with rfl|rfl<;>rfl
 .rcases hg with⟨h1,e⟩|e;.rw[e];exact h.ne h0 h1
  .have:=hw1 h0;omega
theorem n6{B:Bk}{a1 a2 a3:OA}{c1 c2 c3:Nat}(w:World):G7 (((w.alloc (.cells (vB B a1 a2 a3 c1 c2 c3) 27)).alloc (.cells #[.l none 0 0,.l none 0 0] 88)).alloc (.cells #[.l none 0 0,.l none 0 0] 88)) (w.1.size+1+1):=λj s e=>by have n:=Ao ((w.alloc (.cells (vB B a1 a2 a3 c1 c2 c3) 27)).alloc (.cells #[.l none 0 0,.l none 0 0] 88)) #[.l none 0 0,.l none 0 0] 88 j;rw[Au,Au]at n;rw[n]at e;match j,e with
 |0,e=>cases e
 |1,e=>cases e
 |n+2,e=>simp at e
theorem fB (w:World)(B:Bk)(R:Nat)(ad:OA)(nn cap p:Nat)(a1 a2 a3:OA)(c1 c2 c3:Nat)(hr:Rd w R ad nn cap p):Om w B R ad nn cap p a1 a2 a3 c1 c2 c3 ⟨0,λ_=>⟨⟨#[]⟩,⟨#[]⟩,0⟩,0,λ_=>⟨0,⟨#[]⟩,⟨#[]⟩,0,⟨#[]⟩,⟨#[]⟩⟩⟩ none none 0 0 0 0 (((w.alloc (.cells (vB B a1 a2 a3 c1 c2 c3) 27)).alloc (.cells #[.l none 0 0,.l none 0 0] 88)).alloc (.cells #[.l none 0 0,.l none 0 0] 88)):=by have hb:Below w.1.size w (((w.alloc (.cells (vB B a1 a2 a3 c1 c2 c3) 27)).alloc (.cells #[.l none 0 0,.l none 0 0] 88)).alloc (.cells #[.l none 0 0,.l none 0 0] 88)):=(((Al _ _).alloc Bg _).alloc Zc _).alloc Zd _;have h1:=AM.new (w:=w.alloc (.cells (vB B a1 a2 a3 c1 c2 c3) 27)) (l:=[.l none 0 0,.l none 0 0]) (t:=88) Ck;rw[Au]at h1;have h2:=AM.new (w:=(w.alloc (.cells (vB B a1 a2 a3 c1 c2 c3) 27)).alloc (.cells #[.l none 0 0,.l none 0 0] 88)) (l:=[.l none 0 0,.l none 0 0]) (t:=88) Ck;rw[Au,Au]at h2;exact⟨Ap hb,hr.below hb,AM.new (l:=(Mu B a1 a2 a3 c1 c2 c3)) ((An _ _).alloc Zc _),h1.below EC Zc,h2,⟨λh=>absurd h (AJ _),Az _,λh=>absurd h (AJ _),λj hj=>absurd hj Zc⟩,⟨λh=>absurd h (AJ _),Az _,λh=>absurd h (AJ _),λj hj=>absurd hj Zc⟩,λh=>absurd h (AJ _),λh=>absurd h (AJ _),λh=>absurd h (AJ _),⟨Aw _,Aw _,λi hi=>absurd hi (Ai _),λi hi=>absurd hi (Ai _)⟩,n6 _⟩
end Go.Proofs.YtofencldleijcaaGreat
namespace Go.Proofs.YtofencldleijcaaGreat
open Go.RowKit Go.Maps Go.Proofs.Tryz
theorem OJ{x:Ob}{n:Int}:Bh x n=true↔By x.kind=true/\By x.name=true/\(1<=x.ver/\x.ver<=n)/\(1<=x.born/\x.born<=x.ver)/\x.text.size<=300/\x.hn<=5/\OB x.hn x.hs=true:=by
 unfold Bh DP;simp only[Ak,decide_eq_true_eq];constructor;.rintro⟨a,b,c,d,e,f,g⟩;exact⟨a,b,IT c,IT d,e,f,g⟩
 .rintro⟨a,b,c,d,e,f,g⟩;exact⟨a,b,Fa c,Fa d,e,f,g⟩
theorem I2{B:Bk}{v:Wr}(h:B8 B.os v.kind v.name B.on=true):∃i,i<B.on/\B9 B v=B.os i/\(B.os i).kind=v.kind/\(B.os i).name=v.name:=by unfold B8 at h;obtain⟨i,hi⟩:=Hb.1 h;obtain⟨a,b,c⟩:=Ju hi;exact⟨i,a,by unfold B9 BS;rw[hi],b,c⟩
theorem UO{B B1:Bk}{v:Wr}(e1:B1.on=B.on)(e2:B1.os=B.os)(e3:B1.now=B.now)(h:VB B1)(hok:IR B v)(hc:Bv B v=0):Bh (Cp B v) (B.now+1)=true:=by
 obtain⟨c0,cn⟩:=He hc;have hfd:=KC c0;obtain⟨n1,n2,n3,n4,n5⟩:=WL hok.wr;have hh:=QX hok hc;have now0:=hok.now0;rw[OJ];by_cases h1:v.op=1
 .have e:Cp B v=⟨v.kind,v.name,B.now+1,B.now+1,v.text,false,if LO v.hold then 0 else 1,λ_=>v.hold⟩:=by unfold Cp IP;rw[if_pos h1]
  rw[e]at hh⊢;refine⟨n1,n2,⟨by show 1<=B.now+1;omega,Fc _⟩,⟨by show 1<=B.now+1;omega,Fc _⟩,n3,hh.1,Sx hh.2 λi hi=>?_⟩;show By v.hold=true;rcases n4 with q|q;.have hi:i<(if LO v.hold then 0 else 1):=hi;rw[q]at hi;exact absurd hi (Ai _)
  .exact q
 .have hf:B8 B.os v.kind v.name B.on=true:=by rw[decide_eq_false h1]at hfd;simpa using hfd
  obtain⟨i,hi,ei,k1,k2⟩:=I2 hf;have hp:=(h.fit i (by rw[e1];exact hi)).1;rw[e2,e3,OJ,<-ei]at hp;obtain⟨p1,p2,p3,p4,p5,p6,p7⟩:=hp;have nm:=LV p7;by_cases h2:v.op=2
  .have e:Cp B v=⟨(B9 B v).kind,(B9 B v).name,B.now+1,(B9 B v).born,v.text,(B9 B v).ending,(B9 B v).hn,(B9 B v).hs⟩:=by unfold Cp IP;rw[if_neg h1,if_pos h2]
   rw[e];exact⟨p1,p2,⟨by show 1<=B.now+1;omega,Fc _⟩,⟨p4.1,by show(B9 B v).born<=B.now+1;omega⟩,n3,p6,p7⟩
  .by_cases h3:v.op=3
   .have e:Cp B v=⟨(B9 B v).kind,(B9 B v).name,B.now+1,(B9 B v).born,(B9 B v).text,true,(B9 B v).hn,(B9 B v).hs⟩:=by unfold Cp IP;rw[if_neg h1,if_neg h2,if_pos h3]
    rw[e];exact⟨p1,p2,⟨by show 1<=B.now+1;omega,Fc _⟩,⟨p4.1,by show(B9 B v).born<=B.now+1;omega⟩,p5,p6,p7⟩
   .by_cases h4:v.op=4
    .have e:Cp B v=⟨(B9 B v).kind,(B9 B v).name,B.now+1,(B9 B v).born,(B9 B v).text,(B9 B v).ending,(B9 B v).hn+1,Mr (B9 B v).hs (E7 (B9 B v).hs v.hold (B9 B v).hn) v.hold⟩:=by unfold Cp IP;rw[if_neg h1,if_neg h2,if_neg h3,if_pos h4]
     rw[e]at hh⊢;refine⟨p1,p2,⟨by show 1<=B.now+1;omega,Fc _⟩,⟨p4.1,by show(B9 B v).born<=B.now+1;omega⟩,p5,hh.1,Sx hh.2 λj hj=>?_⟩;have hj:j<(B9 B v).hn+1:=hj;have hk:=(IS (B9 B v).hs v.hold (B9 B v).hn).1;show By (Mr _ _ _ j)=true;unfold Mr;split;.exact nm j Zb
     .split
      .have:=XL n5 (AO h4);rcases n4 with q|q;.rw[q]at this;cases this
       .exact q
      .exact nm (j-1) Zb
    .have e:Cp B v=⟨(B9 B v).kind,(B9 B v).name,B.now+1,(B9 B v).born,(B9 B v).text,(B9 B v).ending,(B9 B v).hn-1,Jq (B9 B v).hs (E7 (B9 B v).hs v.hold (B9 B v).hn)⟩:=by unfold Cp IP;rw[if_neg h1,if_neg h2,if_neg h3,if_neg h4]
     rw[e]at hh⊢;refine⟨p1,p2,⟨by show 1<=B.now+1;omega,Fc _⟩,⟨p4.1,by show(B9 B v).born<=B.now+1;omega⟩,p5,hh.1,Sx hh.2 λj hj=>?_⟩;have hj:j<(B9 B v).hn-1:=hj;show By (Jq _ _ j)=true;unfold Jq;split;.exact nm j Zb
     .exact nm (j+1) Zb
theorem QB{B:Bk}{v:Wr}(hfd:¬(B8 B.os v.kind v.name B.on=decide (v.op=1))):(Cp B v).kind=v.kind/\(Cp B v).name=v.name/\(v.op=1->(Cp B v).born=B.now+1/\(Cp B v).ending=false)/\(¬v.op=1->(Cp B v).born=(B9 B v).born):=by
 by_cases h1:v.op=1
 .have e:Cp B v=⟨v.kind,v.name,B.now+1,B.now+1,v.text,false,if LO v.hold then 0 else 1,λ_=>v.hold⟩:=by unfold Cp IP;rw[if_pos h1]
  rw[e];exact⟨rfl,rfl,λ_=>⟨rfl,rfl⟩,λh=>absurd h1 h⟩
 .have hf:B8 B.os v.kind v.name B.on=true:=by rw[decide_eq_false h1]at hfd;simpa using hfd
  obtain⟨i,hi,ei,k1,k2⟩:=I2 hf;have g:(Cp B v).kind=(B9 B v).kind/\(Cp B v).name=(B9 B v).name/\(Cp B v).born=(B9 B v).born:=by
   unfold Cp IP;rw[if_neg h1];split;.exact⟨rfl,rfl,rfl⟩
   .split;.exact⟨rfl,rfl,rfl⟩
    .split<;>exact⟨rfl,rfl,rfl⟩
  rw[ei]at g;exact⟨g.1.trans k1,g.2.1.trans k2,λh=>absurd h h1,λ_=>by rw[ei];exact g.2.2⟩
theorem fZ{B:Bk}{v:Wr}(hb:(Cp B v).born<(Cp B v).ver\/(Cp B v).ending=false):(if CK B v then JZ (Cp B v)else CJ (Cp B v))=true:=by unfold CK;cases hs:CJ (Cp B v)with
 |true=>rfl
 |false=>
  show JZ (Cp B v)=true;unfold CJ at hs;simp only[Bool.or_eq_false_iff,Bool.not_eq_false',decide_eq_false_iff_not]at hs;unfold JZ;rcases hb with hb|hb;.rw[hs.1,decide_eq_true (show(Cp B v).hn=0 by omega),decide_eq_true hb];rfl
  .rw[hs.1]at hb;cases hb
theorem Pu{B B1:Bk}{v:Wr}(e1:B1.on=B.on)(e2:B1.os=B.os)(e3:B1.now=B.now)(h:VB B1)(h2:B1.hn<200)(hok:IR B v)(hc:Bv B v=0):Wn B1 (Dc B v) (Eg B v).on (Eg B v).os:=by
 obtain⟨c0,cn⟩:=He hc;have hfd:=KC c0;obtain⟨k1,k2,k3,k4⟩:=QB hfd;have hv:(Cp B v).ver=B.now+1:=Yc B v _;have hA:QQ (Eg B v).on (Eg B v).os:=by rw[KN,J9];exact Pv (KN.1 hok.asc)
 have hfrom:∀i,i<(Eg B v).on->((Eg B v).os i=Cp B v/\CK B v=false)\/∃j,j<B.on/\(Eg B v).os i=B.os j/\¬MA (B.os j) (Cp B v):=λi hi=>by
  have hm:(Eg B v).os i∈Eo (Eg B v).on (Eg B v).os:=IH.2 ⟨i,hi,rfl⟩;rw[J9]at hm;rcases O4 hm with q|⟨q1,q2⟩;.exact AO q
  .obtain⟨j,j1,j2⟩:=IH.1 q1;refine AD ⟨j,j1,j2.symm,λk=>q2 ?_⟩;rw[<-j2];exact(Lg _ _).2 k
 have hver:∀j,j<B.on->(B.os j).ver<=B.now:=λj hj=>by have:=Jr (h.fit j (by rw[e1];exact hj)).1;rw[e2,e3]at this;exact this.2.2.2
 have hborn:∀j,j<B.on->(B.os j).born<=(B.os j).ver:=λj hj=>by have:=Jr (h.fit j (by rw[e1];exact hj)).1;rw[e2]at this;exact this.2.1
 refine⟨h2,by rw[e3];exact cn,Xz hok hc,YD hA,?_,λi hi=>?_,λj hj hk=>?_,λg=>?_,by rw[e3];rfl,by rw[e3];exact hv,by rw[e3];exact UO e1 e2 e3 h hok hc,?_,?_⟩
 .unfold DV;refine AC.2 λi hi=>AC.2 λk hk=>decide_eq_true λe=>?_;have hne:¬(Eg B v).os k=(Eg B v).os i:=λq=>by have:=hA k i hk hi;rw[q,aQ]at this;cases this
  rcases hfrom i hi with⟨a,_⟩|⟨j,j1,j2,_⟩<;>rcases hfrom k Zb with⟨b,_⟩|⟨l,l1,l2,_⟩;.exact hne (b.trans a.symm)
  .rw[a,l2,hv]at e;have:=hver l l1;omega
  .rw[b,j2,hv]at e;have:=hver j j1;omega
  .rw[j2,l2]at e hne;have hjl:¬l=j:=λq=>hne (by rw[q]);have vd:=h.vd;unfold DV at vd;rw[e1,e2]at vd;rcases Nat.lt_or_gt_of_ne hjl with q|q;.exact of_decide_eq_true (AC.1 (AC.1 vd j j1) l q) e
   .exact of_decide_eq_true (AC.1 (AC.1 vd l l1) j q) e.symm
 .rcases hfrom i hi with q|⟨j,j1,j2,j3⟩;.exact AO q
  .exact AD ⟨j,by rw[e1];exact j1,by rw[e2];exact j2,by rw[e2];exact j3⟩
 .rw[e1]at hj;rw[e2]at hk⊢;have:=OP (o:=Cp B v) (g:=CK B v) (IH.2 ⟨j,hj,rfl⟩:B.os j∈Eo B.on B.os) (λq=>hk ((Lg _ _).1 q));rw[<-J9]at this;exact IH.1 this
 .have g:CK B v=false:=g;have:Cp B v∈Eo (Eg B v).on (Eg B v).os:=by rw[J9,g];exact Qu _ _
  exact IH.1 this
 .refine fZ ?_;by_cases h1:v.op=1;.exact AD (k3 h1).2
  .have hf:B8 B.os v.kind v.name B.on=true:=by rw[decide_eq_false h1]at hfd;simpa using hfd
   obtain⟨i,hi,ei,_,_⟩:=I2 hf;refine AO ?_;rw[k4 h1,hv,ei];have a:=hborn i hi;have b:=hver i hi;omega
 .show(match CM B1.hs (Cp B v).kind (Cp B v).name B1.hn with|none=>H6 (Dc B v) B1.floor|some i=>Gf (B1.hs i) (Dc B v))=true;by_cases h1:v.op=1
  .have hg:CK B v=false:=by unfold CK CJ;rw[(k3 h1).2];rfl
   have hcr:FK (Dc B v)=true:=by show(!CK B v&&(Cp B v).born==B.now+1)=true;rw[hg,(k3 h1).1];simp
   cases q:CM B1.hs (Cp B v).kind (Cp B v).name B1.hn with
   |none=>show H6 (Dc B v) B1.floor=true;unfold H6;rw[hcr];rfl
   |some i=>
    show Gf (B1.hs i) (Dc B v)=true;obtain⟨i1,i2,i3⟩:=DZ q;have o:=h.agH i i1;unfold Go.Proofs.YtofencldleijcaaGreat.agH at o;rw[i2,i3,q,e1,e2,k1,k2]at o;have hno:(Jb B.os v.kind v.name B.on).isSome=false:=by rw[decide_eq_true h1]at hfd;unfold B8 at hfd;simpa using hfd
    rw[hno]at o;have hgo:(B1.hs i).gone=true:=by simpa using o
    unfold Gf;rw[hgo,hcr];rfl
  .have hf:B8 B.os v.kind v.name B.on=true:=by rw[decide_eq_false h1]at hfd;simpa using hfd
   obtain⟨i,hi,ei,m1,m2⟩:=I2 hf;have a:=hborn i hi;have b:=hver i hi;have hcr:FK (Dc B v)=false:=by
    show(!CK B v&&(Cp B v).born==B.now+1)=false;have:((Cp B v).born==B.now+1)=false:=by rw[k4 h1,ei];simp;omega
    rw[this,Bool.and_false]
   have o:=h.agO i (by rw[e1];exact hi);unfold Go.Proofs.YtofencldleijcaaGreat.agO at o;rw[e2,m1,m2]at o;rw[k1,k2];cases q:CM B1.hs v.kind v.name B1.hn with
   |none=>rw[q]at o;show H6 (Dc B v) B1.floor=true;unfold H6;rw[hcr];have o:=of_decide_eq_true o;show decide ((Cp B v).born<=B1.floor)=true;rw[k4 h1,ei];exact decide_eq_true Zb
   |some j=>rw[q]at o;have o:(!(B1.hs j).gone&&BT (B.os i) (B1.hs j).ob)=true:=o;simp only[Ak,FY]at o;show Gf (B1.hs j) (Dc B v)=true;unfold Gf;rw[o.1,hcr];show((B1.hs j).ob.born==(Cp B v).born)=true;have s:=o.2;unfold BT at s;simp only[Ak,decide_eq_true_eq]at s;rw[k4 h1,ei,s.2.2.2.1];simp
theorem I8{B:Bk}{v:Wr}(h:VB B)(hok:IR B v)(hc:Bv B v=0):VB (Eg B v):=by
 by_cases h2:B.hn=200
 .have d:=PO h Zb;have a:=PT d (Pu (B:=B) (B1:=D1 B) rfl rfl rfl d (by show B.hn-1<200;omega) hok hc);have e:Eg B v=E6 (D1 B) (Dc B v) (Eg B v).on (Eg B v).os:=by unfold Eg E6 D1 fP GG;simp[h2]
  rw[e];exact a
 .have a:=PT h (Pu (B:=B) (B1:=B) rfl rfl rfl h (by have:=h.hn;omega) hok hc);have e:Eg B v=E6 B (Dc B v) (Eg B v).on (Eg B v).os:=by unfold Eg E6 fP GG;simp[h2]
  rw[e];exact a
end Go.Proofs.YtofencldleijcaaGreat
