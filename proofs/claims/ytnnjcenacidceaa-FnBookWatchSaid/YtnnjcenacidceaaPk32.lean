import Derived.Test.YtnnjcenacidceaaPk24
import Derived.Test.YtnnjcenacidceaaPk29
import Derived.Test.YtnnjcenacidceaaPk31
import Derived.Test.YtnnjcenacidceaaPk22
import Derived.Test.YtnnjcenacidceaaPk27
import Derived.Test.YtnnjcenacidceaaPk26
import Derived.Test.YtnnjcenacidceaaPk28
set_option maxRecDepth 100000
namespace Go.Proofs.Ytnnjcenacidceaa
open Go.RowKit Go.Maps Go.Proofs.Try
theorem Xu{P:Program}{id:Nat}{ops:Array Oper}{Q:Exit->Act->World->Prop}{a0:Act}{W:World}(hm:P.follows .mixedOrders=true)(n:Nat)(mk:(Nat->Value)->Array Value)(t0:Nat->Value)(E:World->Prop)(G:Nat->Value->World->Prop)(Z:Nat->Nat->Prop)(ZZ:Nat->Prop)(hn:ops.size=n)(hord:((List.range ops.size).all λi=>match ops[i]? with|some o=>o.after.all (λe=>!(Region.binds .any e)||decide (e.on<i))|none=>true)=true)(h0:a0=⟨mk t0,[]⟩)(hE:E W.drew)(hZ:∀i q,Z i q->ZZ q)(st:∀i j v X Y,i<n->j<n->¬i=j->E X->G j v X->Az (Z i) X Y->G j v Y)(sg:∀i,i<n->∀(t:Nat->Value) X K,Az ZZ W X->E X->(∀j,BE ops i j->G j (t j) X)->(∀v Y,G i v Y->E Y->Az (Z i) X Y->K ⟨mk (Av t i v),[]⟩ Y)->wpOp P ops Q i K ⟨mk t,[]⟩ X)(hfin:∀t X,Az ZZ W X->E X->(∀j,j<n->G j (t j) X)->Q .normal ⟨mk t,[]⟩ X):(Code.region id ops true).wp P Q a0 W:=by
 refine mX hm n mk t0 (λf t X=>Az ZZ W X/\E X/\∀i,i<n->f i=true->G i (t i) X) hn hord h0 ?_ ?_ ?_;.intro f hf;exact⟨Aq ((Ao _ _).drew),hE,λi _ h=>by rw[hf]at h;cases h⟩
 .rintro i hi f t X K ⟨hb,hE',hG⟩ hfi hw hK;refine sg i hi t X K hb hE' (λj hj=>hG j ?_ (hw j hj)) (λv Y hv hEY hfY=>hK v Y (λg hgi hgj=>⟨hb.trans (hfY.mono (λq h=>hZ i q h)),hEY,λj hj h=>?_⟩))
  .obtain⟨o,ho,e,he,hbd,rfl⟩:=hj;have h1:=AZ.1 hord i (by rw[hn];simpa using hi);simp only[ho]at h1;have h2:=(AU.1 h1) e he;rw[hbd]at h2;have h3:e.on<i:=by simpa using h2
   omega
  .by_cases e:j=i;.subst e;rw[Bp];exact hv
   .rw[BB e];rw[hgj j e]at h;exact st i j _ X Y hi hj (λq=>e q.symm) hE' (hG j hj h) hfY
 .rintro f t X hf ⟨hb,hE',hG⟩;exact hfin t X hb hE' (λj hj=>hG j hj (hf j hj))
theorem MG.fr{X Y:World}{z:Nat}{P:Nat->Prop}(h:MG X z)(hf:Az P X Y)(hz:z<X.1.size)(hp:¬P z):MG Y z:=λj s e=>h j s (by rw[<-hf.cell (p:=⟨z,j,none⟩) hz hp];exact e)
structure Bo (X:World)(z m:Nat):Prop where
 row:∃c,AN X z m c
 no:MG X z
theorem Bo.lt{X:World}{z m:Nat}(h:Bo X z m):z<X.1.size:=by obtain⟨c,r⟩:=h.row;exact r.lt
theorem Bo.fr{X Y:World}{z m:Nat}{P:Nat->Prop}(h:Bo X z m)(hf:Az P X Y)(hp:¬P z):Bo Y z m:=by obtain⟨c,r⟩:=h.row;exact⟨⟨c,r.fr hf hp⟩,h.no.fr hf r.lt hp⟩
theorem lA{w:World}{g:Nat}{c:Nat->Value}{u0 u1 u2:Value}(h:AN w g 3 c):AN (((w.setCell ⟨g,0,none⟩ u0).setCell ⟨g,1,none⟩ u1).setCell ⟨g,2,none⟩ u2) g 3 (AR [u0,u1,u2]):=by have r:=((h.set (o:=0) Za u0).set (o:=1) Za u1).set (o:=2) Za u2;refine⟨r.lt,r.free,λj hj=>(r.cell j hj).trans (congrArg some ?_)⟩;rcases(show j=0\/j=1\/j=2 by omega)with rfl|rfl|rfl<;>rfl
theorem sP{w:World}{z:Nat}(u0 u1 u2:Value):Az (λq=>q=z) w (((w.setCell ⟨z,0,none⟩ u0).setCell ⟨z,1,none⟩ u1).setCell ⟨z,2,none⟩ u2):=(((Az.refl (λq=>q=z) w).setCell (p:=⟨z,0,none⟩) rfl u0).setCell (p:=⟨z,1,none⟩) rfl u1).setCell (p:=⟨z,2,none⟩) rfl u2
theorem Bo.set5{w:World}{z:Nat}{v0 v1 v2 v3 v4:Value}(h:Bo w z 5)(h0:∀s,¬v0=.s s)(h1:∀s,¬v1=.s s)(h2:∀s,¬v2=.s s)(h3:∀s,¬v3=.s s)(h4:∀s,¬v4=.s s):Bo (((((w.setCell ⟨z,0,none⟩ v0).setCell ⟨z,1,none⟩ v1).setCell ⟨z,2,none⟩ v2).setCell ⟨z,3,none⟩ v3).setCell ⟨z,4,none⟩ v4) z 5:=by obtain⟨c,r⟩:=h.row;have r0:=r.set (o:=0) Za v0;have r1:=r0.set (o:=1) Za v1;have r2:=r1.set (o:=2) Za v2;have r3:=r2.set (o:=3) Za v3;exact⟨⟨_,YC r⟩,((((h.no.set (r.cell 0 Za) h0).set (r0.cell 1 Za) h1).set (r1.cell 2 Za) h2).set (r2.cell 3 Za) h3).set (r3.cell 4 Za) h4⟩
theorem Bo.set3{w:World}{z:Nat}{u0 u1 u2:Value}(h:Bo w z 3)(h0:∀s,¬u0=.s s)(h1:∀s,¬u1=.s s)(h2:∀s,¬u2=.s s):Bo (((w.setCell ⟨z,0,none⟩ u0).setCell ⟨z,1,none⟩ u1).setCell ⟨z,2,none⟩ u2) z 3:=by obtain⟨c,r⟩:=h.row;have r0:=r.set (o:=0) Za u0;have r1:=r0.set (o:=1) Za u1;exact⟨⟨_,lA r⟩,((h.no.set (r.cell 0 Za) h0).set (r0.cell 1 Za) h1).set (r1.cell 2 Za) h2⟩
theorem Tc{Q:Ending->World->Prop}{tmps:Array Value}{W:World}{A B:Nat}{v0 v1 v2 v3 v4 u0 u1 u2:Value}(hr:AN W A 5 (AR [v0,v1,v2,v3,v4]))(hs:AN W B 3 (AR [u0,u1,u2]))(h4:tmps[4]?.getD undef=.p A 0)(h5:tmps[5]?.getD undef=.p B 0)(hQ:Q (.returned (.tuple #[.agg #[v0,v1,v2,v3,v4],.agg #[u0,u1,u2]])) W):bodyPost prog Try.f69 Q .ret ⟨tmps,[]⟩ W:=by obtain⟨c0,c1,c2,c3,c4⟩:=Y0 hr;obtain⟨e0,e1,e2⟩:=bw hs;exact bodyPost_ret (v:=.tuple #[.agg #[v0,v1,v2,v3,v4],.agg #[u0,u1,u2]]) (by simp only[results,results69];simp[go_sem,h4,h5,c0,c1,c2,c3,c4,e0,e1,e2]) rfl hQ
def pV (S:Sa)(Y:Bk)(w:World)(e:Ending)(w':World):Prop:=Below w.1.size w w'/\∃(a1 a2 a3:OA)(c1 c2 c3:Nat),e=.returned (.tuple #[.agg (vB Y a1 a2 a3 c1 c2 c3),.agg (vS S)])/\BF w' 0 w'.1.size Y a1 a2 a3/\MW w' Y.tn a3 c3
structure A8 (W:World)(s0:Nat)(B:Bk)(c:Ca)(a1 a2 a3:OA)(c1 c2 c3:Nat)(u1 u2:OA)(d1 d2:Nat):Prop where
 bk:K3 W s0 (Qq B a1 a2 a3 c1 c2 c3)ca:K3 W (s0+1) (bc c u1 u2 d1 d2)an:Bo W (s0+1+1) 5
 sd:Bo W (s0+1+1+1) 3
 bin:BF W 0 s0 B a1 a2 a3
 uin:Lt W 0 s0 c.bu u1 u2
theorem A8.lt{W:World}{s0:Nat}{B:Bk}{c:Ca}{a1 a2 a3:OA}{c1 c2 c3:Nat}{u1 u2:OA}{d1 d2:Nat}(h:A8 W s0 B c a1 a2 a3 c1 c2 c3 u1 u2 d1 d2):s0+1+1+1<W.1.size:=h.sd.lt
theorem A8.below{W W':World}{s0:Nat}{B:Bk}{c:Ca}{a1 a2 a3:OA}{c1 c2 c3:Nat}{u1 u2:OA}{d1 d2:Nat}(h:A8 W s0 B c a1 a2 a3 c1 c2 c3 u1 u2 d1 d2)(hb:Below W.1.size W W'):A8 W' s0 B c a1 a2 a3 c1 c2 c3 u1 u2 d1 d2:=by have hz:=h.lt;exact⟨h.bk.below hb Za,h.ca.below hb Za,h.an.fr (Aq (P:=λ_=>False) hb) (λq=>q),h.sd.fr (Aq (P:=λ_=>False) hb) (λq=>q),h.bin.below hb Za,h.uin.below hb Za⟩
theorem WK (w:World)(B:Bk)(c:Ca)(a1 a2 a3:OA)(c1 c2 c3:Nat)(u1 u2:OA)(d1 d2:Nat)(hb:BF w 0 w.1.size B a1 a2 a3)(hu:Lt w 0 w.1.size c.bu u1 u2):A8 ((((w.alloc (.cells (vB B a1 a2 a3 c1 c2 c3) 27)).alloc (.cells (vC c u1 u2 d1 d2) 109)).alloc (.cells #[.i 0,.i 0,.l none 0 0,.l none 0 0,.l none 0 0] 27)).alloc (.cells #[.i 0,.i 0,.bool false] 100)) w.1.size B c a1 a2 a3 c1 c2 c3 u1 u2 d1 d2/\Below w.1.size w ((((w.alloc (.cells (vB B a1 a2 a3 c1 c2 c3) 27)).alloc (.cells (vC c u1 u2 d1 d2) 109)).alloc (.cells #[.i 0,.i 0,.l none 0 0,.l none 0 0,.l none 0 0] 27)).alloc (.cells #[.i 0,.i 0,.bool false] 100)):=by
 have hB:Below w.1.size w ((((w.alloc (.cells (vB B a1 a2 a3 c1 c2 c3) 27)).alloc (.cells (vC c u1 u2 d1 d2) 109)).alloc (.cells #[.i 0,.i 0,.l none 0 0,.l none 0 0,.l none 0 0] 27)).alloc (.cells #[.i 0,.i 0,.bool false] 100)):=((((Ao _ _).alloc uK _).alloc Zc _).alloc Zd _).alloc Zd _;have n4:∀j,((((w.alloc (.cells (vB B a1 a2 a3 c1 c2 c3) 27)).alloc (.cells (vC c u1 u2 d1 d2) 109)).alloc (.cells #[.i 0,.i 0,.l none 0 0,.l none 0 0,.l none 0 0] 27)).alloc (.cells #[.i 0,.i 0,.bool false] 100)).cell? ⟨w.1.size+1+1+1,j,none⟩=(#[.i 0,.i 0,.bool false]:Array Value)[j]?:=λj=>by have:=Ak (((w.alloc (.cells (vB B a1 a2 a3 c1 c2 c3) 27)).alloc (.cells (vC c u1 u2 d1 d2) 109)).alloc (.cells #[.i 0,.i 0,.l none 0 0,.l none 0 0,.l none 0 0] 27)) #[.i 0,.i 0,.bool false] 100 j;simpa using this
 have p3:∀b j:Nat,b<w.1.size+1+1+1->((((w.alloc (.cells (vB B a1 a2 a3 c1 c2 c3) 27)).alloc (.cells (vC c u1 u2 d1 d2) 109)).alloc (.cells #[.i 0,.i 0,.l none 0 0,.l none 0 0,.l none 0 0] 27)).alloc (.cells #[.i 0,.i 0,.bool false] 100)).cell? ⟨b,j,none⟩=(((w.alloc (.cells (vB B a1 a2 a3 c1 c2 c3) 27)).alloc (.cells (vC c u1 u2 d1 d2) 109)).alloc (.cells #[.i 0,.i 0,.l none 0 0,.l none 0 0,.l none 0 0] 27)).cell? ⟨b,j,none⟩:=λb j hp=>by rw[Ap _ _ _ (by simpa using hp)]
 have n3:∀j,((((w.alloc (.cells (vB B a1 a2 a3 c1 c2 c3) 27)).alloc (.cells (vC c u1 u2 d1 d2) 109)).alloc (.cells #[.i 0,.i 0,.l none 0 0,.l none 0 0,.l none 0 0] 27)).alloc (.cells #[.i 0,.i 0,.bool false] 100)).cell? ⟨w.1.size+1+1,j,none⟩=(#[.i 0,.i 0,.l none 0 0,.l none 0 0,.l none 0 0]:Array Value)[j]?:=λj=>by rw[p3 _ _ Za];have:=Ak ((w.alloc (.cells (vB B a1 a2 a3 c1 c2 c3) 27)).alloc (.cells (vC c u1 u2 d1 d2) 109)) #[.i 0,.i 0,.l none 0 0,.l none 0 0,.l none 0 0] 27 j;simpa using this
 have n2:∀j,((((w.alloc (.cells (vB B a1 a2 a3 c1 c2 c3) 27)).alloc (.cells (vC c u1 u2 d1 d2) 109)).alloc (.cells #[.i 0,.i 0,.l none 0 0,.l none 0 0,.l none 0 0] 27)).alloc (.cells #[.i 0,.i 0,.bool false] 100)).cell? ⟨w.1.size+1,j,none⟩=((vC c u1 u2 d1 d2):Array Value)[j]?:=λj=>by rw[p3 _ _ Za,Ap _ _ _ Zc];simp
 have n1:∀j,((((w.alloc (.cells (vB B a1 a2 a3 c1 c2 c3) 27)).alloc (.cells (vC c u1 u2 d1 d2) 109)).alloc (.cells #[.i 0,.i 0,.l none 0 0,.l none 0 0,.l none 0 0] 27)).alloc (.cells #[.i 0,.i 0,.bool false] 100)).cell? ⟨w.1.size,j,none⟩=((vB B a1 a2 a3 c1 c2 c3):Array Value)[j]?:=λj=>by rw[p3 _ _ Za,Ap _ _ _ Zd,Ap _ _ _ Zc];exact Ak w (vB B a1 a2 a3 c1 c2 c3) 27 j
 refine⟨⟨λj hj=>?_,λj hj=>?_,⟨⟨_,AN.below (AN.new (w:=((w.alloc (.cells (vB B a1 a2 a3 c1 c2 c3) 27)).alloc (.cells (vC c u1 u2 d1 d2) 109))) (l:=[.i 0,.i 0,.l none 0 0,.l none 0 0,.l none 0 0]) (t:=27) EF) AG Zc|>λr=>by simpa using r⟩,λj s e=>?_⟩,⟨⟨_,by have r:=AN.new (w:=(((w.alloc (.cells (vB B a1 a2 a3 c1 c2 c3) 27)).alloc (.cells (vC c u1 u2 d1 d2) 109)).alloc (.cells #[.i 0,.i 0,.l none 0 0,.l none 0 0,.l none 0 0] 27))) (l:=[.i 0,.i 0,.bool false]) (t:=100) EF;simpa using r⟩,λj s e=>?_⟩,hb.below hB uK,hu.below hB uK⟩,hB⟩;.rw[n1 j];rcases(show j=0\/j=1\/j=2\/j=3\/j=4 by simp at hj;omega)with rfl|rfl|rfl|rfl|rfl<;>rfl
 .rw[n2 j];rcases(show j=0\/j=1\/j=2\/j=3 by simp at hj;omega)with rfl|rfl|rfl|rfl<;>rfl
 .rw[n3]at e;match j,e with
  |0,e=>cases e
  |1,e=>cases e
  |2,e=>cases e
  |3,e=>cases e
  |4,e=>cases e
  |n+5,e=>simp at e
 .rw[n4]at e;match j,e with
  |0,e=>cases e
  |1,e=>cases e
  |2,e=>cases e
  |n+3,e=>simp at e
theorem A8.done{W:World}{s0:Nat}{B:Bk}{c:Ca}{a1 a2 a3:OA}{c1 c2 c3:Nat}{u1 u2:OA}{d1 d2:Nat}(h:A8 W s0 B c a1 a2 a3 c1 c2 c3 u1 u2 d1 d2){w:World}(hw:Below w.1.size w W)(hs:w.1.size=s0)(v0 v1 v2 v3 v4 u0 u1 u2:Value):AN ((((((((W.setCell ⟨s0+1+1,0,none⟩ v0).setCell ⟨s0+1+1,1,none⟩ v1).setCell ⟨s0+1+1,2,none⟩ v2).setCell ⟨s0+1+1,3,none⟩ v3).setCell ⟨s0+1+1,4,none⟩ v4).setCell ⟨s0+1+1+1,0,none⟩ u0).setCell ⟨s0+1+1+1,1,none⟩ u1).setCell ⟨s0+1+1+1,2,none⟩ u2) (s0+1+1) 5 (AR [v0,v1,v2,v3,v4])/\AN ((((((((W.setCell ⟨s0+1+1,0,none⟩ v0).setCell ⟨s0+1+1,1,none⟩ v1).setCell ⟨s0+1+1,2,none⟩ v2).setCell ⟨s0+1+1,3,none⟩ v3).setCell ⟨s0+1+1,4,none⟩ v4).setCell ⟨s0+1+1+1,0,none⟩ u0).setCell ⟨s0+1+1+1,1,none⟩ u1).setCell ⟨s0+1+1+1,2,none⟩ u2) (s0+1+1+1) 3 (AR [u0,u1,u2])/\Below w.1.size w ((((((((W.setCell ⟨s0+1+1,0,none⟩ v0).setCell ⟨s0+1+1,1,none⟩ v1).setCell ⟨s0+1+1,2,none⟩ v2).setCell ⟨s0+1+1,3,none⟩ v3).setCell ⟨s0+1+1,4,none⟩ v4).setCell ⟨s0+1+1+1,0,none⟩ u0).setCell ⟨s0+1+1+1,1,none⟩ u1).setCell ⟨s0+1+1+1,2,none⟩ u2)/\(∀{X:Bk}{b1 b2 b3:OA},BF W 0 s0 X b1 b2 b3->BF ((((((((W.setCell ⟨s0+1+1,0,none⟩ v0).setCell ⟨s0+1+1,1,none⟩ v1).setCell ⟨s0+1+1,2,none⟩ v2).setCell ⟨s0+1+1,3,none⟩ v3).setCell ⟨s0+1+1,4,none⟩ v4).setCell ⟨s0+1+1+1,0,none⟩ u0).setCell ⟨s0+1+1+1,1,none⟩ u1).setCell ⟨s0+1+1+1,2,none⟩ u2) 0 ((((((((W.setCell ⟨s0+1+1,0,none⟩ v0).setCell ⟨s0+1+1,1,none⟩ v1).setCell ⟨s0+1+1,2,none⟩ v2).setCell ⟨s0+1+1,3,none⟩ v3).setCell ⟨s0+1+1,4,none⟩ v4).setCell ⟨s0+1+1+1,0,none⟩ u0).setCell ⟨s0+1+1+1,1,none⟩ u1).setCell ⟨s0+1+1+1,2,none⟩ u2).1.size X b1 b2 b3):=by obtain⟨c5,r5⟩:=h.an.row;obtain⟨c3',r3⟩:=h.sd.row;have F5:=pE (w:=W) (z:=s0+1+1) v0 v1 v2 v3 v4;have F3:=sP (w:=(((((W.setCell ⟨s0+1+1,0,none⟩ v0).setCell ⟨s0+1+1,1,none⟩ v1).setCell ⟨s0+1+1,2,none⟩ v2).setCell ⟨s0+1+1,3,none⟩ v3).setCell ⟨s0+1+1,4,none⟩ v4)) (z:=s0+1+1+1) u0 u1 u2;have hz:=hw.size;have B5:Below s0 W ((((((((W.setCell ⟨s0+1+1,0,none⟩ v0).setCell ⟨s0+1+1,1,none⟩ v1).setCell ⟨s0+1+1,2,none⟩ v2).setCell ⟨s0+1+1,3,none⟩ v3).setCell ⟨s0+1+1,4,none⟩ v4).setCell ⟨s0+1+1+1,0,none⟩ u0).setCell ⟨s0+1+1+1,1,none⟩ u1).setCell ⟨s0+1+1+1,2,none⟩ u2):=(F5.below (λq hq e=>by have e':q=s0+1+1:=e;omega) Za).trans (F3.below (λq hq e=>by have e':q=s0+1+1+1:=e;omega) rI);exact⟨(YC r5).fr F3 (λe=>by have e':s0+1+1=s0+1+1+1:=e;omega),lA (r3.fr F5 (λe=>by have e':s0+1+1+1=s0+1+1:=e;omega)),by subst hs;exact hw.trans B5,λ{X b1 b2 b3}hX=>(hX.below B5 uK).upTo rI⟩
end Go.Proofs.Ytnnjcenacidceaa
namespace Go.Proofs.Ytnnjcenacidceaa
open Go.RowKit Go.Proofs.Try
theorem Rd.keep{w X Y:World}{R:Nat}{ad:OA}{n cap p0 p:Nat}(hW:Rd w R ad n cap p0)(hX:Rd X R ad n cap p)(hf:Az (λq=>q=R) w Y)(hx:Az (λq=>¬q=R) X Y):Rd Y R ad n cap p:=by have e:∀j,Y.cell? ⟨R,j,none⟩=X.cell? ⟨R,j,none⟩:=λj=>hx.cell (p:=⟨R,j,none⟩) hX.lt (λh=>h rfl);refine⟨(e 0).trans hX.c0,(e 1).trans hX.c1,(hx.frozen (p:=⟨R,1,none⟩) hX.lt (λh=>h rfl)).trans hX.f1,Ac hX.lt hx.size,hX.n2,λi hi=>?_,λj s h=>hX.ns j s ((e j).symm.trans h)⟩;obtain⟨b,off,v,h1,h2,h3,h4,h5,h6⟩:=hW.bt i hi;exact⟨b,off,v,h1,Ac h2 hf.size,h3,(hf.cell (p:=⟨b,off+i,none⟩) h2 h3).trans h4,h5,h6⟩
structure rM (v:Wt):Prop where
 fit:nP v
 v1:v.ver<=9223372036854775807
structure UG (x:Bu):Prop where
 w:x.wn<=100
 r:x.rn<=100
 ws:∀i,i<x.wn->rM (x.ws i)rs:∀i,i<x.rn->Wd (x.rs i)
theorem UG.fit{x:Bu}(h:UG x):Oe x:=⟨by have:=h.w;omega,by have:=h.r;omega,λi hi=>(h.ws i hi).fit,λi hi=>(h.rs i hi).fit⟩
theorem UG.int{x:Bu}(h:UG x):SS x:=⟨λi hi=>(h.ws i hi).v1,λi hi=>(h.rs i hi).s1⟩
def dS (x:Bu)(v:Wt):Bu:=⟨x.wn+1,Q5 x.ws x.wn v,x.rn,x.rs⟩
def Xw (x:Bu)(v:Wr):Bu:=⟨x.wn,x.ws,x.rn+1,Q5 x.rs x.rn v⟩
theorem UG.addT{x:Bu}{v:Wt}(h:UG x)(hv:rM v)(hn:x.wn<100):UG (dS x v):=⟨hn,h.r,λi hi=>by
 show rM (if i<x.wn then x.ws i else v);split;.exact h.ws i ‹_›
 .exact hv,h.rs⟩
theorem UG.addR{x:Bu}{v:Wr}(h:UG x)(hv:Wd v)(hn:x.rn<100):UG (Xw x v):=⟨h.w,hn,h.ws,λi hi=>by
 show Wd (if i<x.rn then x.rs i else v);split;.exact h.rs i ‹_›
 .exact hv⟩
structure Sf (w:World)(B:Bk)(R:Nat)(ad:OA)(nn cap p:Nat)(a1 a2 a3:OA)(c1 c2 c3:Nat)(x:Bu)(u1 u2:OA)(d1 d2 g1 g2:Nat)(X:World):Prop where
 f:Az (λq=>q=R) w X
 r:Rd X R ad nn cap p
 s:AN X w.1.size 5 (AR (Qq B a1 a2 a3 c1 c2 c3))a:AN X (w.1.size+1) 2 (AR [.l none 0 0,.l none 0 0])u:AN X (w.1.size+1+1) 2 (AR (sM x u1 u2 d1 d2))w1:Rw X u1 g1 x.wn d1 3 (kF x.ws)w2:Rw X u2 g2 x.rn d2 6 (Qp x.rs)h1:0<d1->w.1.size+1+1+1<=g1
 h2:0<d2->w.1.size+1+1+1<=g2/\Sq X g2 (x.rn*6)ne:0<d1->0<d2->¬g1=g2
 i:UG x
 un:MG X (w.1.size+1+1)
theorem Sf.fr{w:World}{B:Bk}{R:Nat}{ad:OA}{nn cap p:Nat}{a1 a2 a3:OA}{c1 c2 c3:Nat}{x:Bu}{u1 u2:OA}{d1 d2 g1 g2:Nat}{X:World}{Y:World}{p0 p':Nat}{P:Nat->Prop}(h:Sf w B R ad nn cap p a1 a2 a3 c1 c2 c3 x u1 u2 d1 d2 g1 g2 X)(hw:Rd w R ad nn cap p0)(hf:Az P X Y)(hP:∀q,q<w.1.size+1+1+1->P q->q=R)(hP1:0<d1->¬P g1)(hP2:0<d2->¬P g2)(hr:Rd Y R ad nn cap p'):Sf w B R ad nn cap p' a1 a2 a3 c1 c2 c3 x u1 u2 d1 d2 g1 g2 Y:=by have hl:=h.u.lt;have hR:=hw.lt;have no:∀q,q<w.1.size+1+1+1->¬q=R->¬P q:=λq h1 h2 h3=>h2 (hP q h1 h3);refine⟨⟨hf.os.trans h.f.os,hf.tape.trans h.f.tape,hf.output.trans h.f.output,AT h.f.size hf.size,λk hk hn=>(hf.block k (Ac hk h.f.size) (no k Za hn)).trans (h.f.block k hk hn)⟩,hr,h.s.fr hf (no _ Za Za),h.a.fr hf (no _ Za Za),h.u.fr hf (no _ Za Za),h.w1.fr hf hP1,h.w2.fr hf hP2,h.h1,λh0=>⟨(h.h2 h0).1,(h.h2 h0).2.fr hf (hP2 h0) (h.w2.room h0).lt⟩,h.ne,h.i,h.un.fr hf hl (no _ Za Za)⟩
theorem Sf.pick{w:World}{B:Bk}{R:Nat}{ad:OA}{nn cap p:Nat}{a1 a2 a3:OA}{c1 c2 c3:Nat}{x:Bu}{u1 u2:OA}{d1 d2 g1 g2:Nat}{X:World}{Y:World}{p0 p':Nat}(h:Sf w B R ad nn cap p a1 a2 a3 c1 c2 c3 x u1 u2 d1 d2 g1 g2 X)(hw:Rd w R ad nn cap p0)(hf:Az (λq=>q=R) X Y)(hr:Rd Y R ad nn cap p'):Sf w B R ad nn cap p' a1 a2 a3 c1 c2 c3 x u1 u2 d1 d2 g1 g2 Y:=by have hR:=hw.lt;exact h.fr hw hf (λ_ _ e=>e) (λh0 e=>by have:=h.h1 h0;omega) (λh0 e=>by have:=(h.h2 h0).1;omega) hr
theorem Sf.below{w:World}{B:Bk}{R:Nat}{ad:OA}{nn cap p:Nat}{a1 a2 a3:OA}{c1 c2 c3:Nat}{x:Bu}{u1 u2:OA}{d1 d2 g1 g2:Nat}{X:World}{Y:World}{p0:Nat}(h:Sf w B R ad nn cap p a1 a2 a3 c1 c2 c3 x u1 u2 d1 d2 g1 g2 X)(hw:Rd w R ad nn cap p0)(hb:Below X.1.size X Y):Sf w B R ad nn cap p a1 a2 a3 c1 c2 c3 x u1 u2 d1 d2 g1 g2 Y:=h.pick hw (Aq hb) (h.r.below hb)
theorem Sf.box{w:World}{B:Bk}{R:Nat}{ad:OA}{nn cap p:Nat}{a1 a2 a3:OA}{c1 c2 c3:Nat}{x:Bu}{u1 u2:OA}{d1 d2 g1 g2:Nat}{X:World}{Y:World}{p0 z:Nat}(h:Sf w B R ad nn cap p a1 a2 a3 c1 c2 c3 x u1 u2 d1 d2 g1 g2 X)(hw:Rd w R ad nn cap p0)(hf:Az (λq=>q=z) X Y)(hz:w.1.size+1+1+1<=z)(z1:0<d1->¬z=g1)(z2:0<d2->¬z=g2):Sf w B R ad nn cap p a1 a2 a3 c1 c2 c3 x u1 u2 d1 d2 g1 g2 Y:=by have hR:=hw.lt;have hf2:Az (λq=>q=R) w Y:=⟨hf.os.trans h.f.os,hf.tape.trans h.f.tape,hf.output.trans h.f.output,AT h.f.size hf.size,λk hk hn=>(hf.block k (Ac hk h.f.size) Za).trans (h.f.block k hk hn)⟩;exact h.fr hw hf (λq h1 h2=>by omega) (λh0 e=>z1 h0 e.symm) (λh0 e=>z2 h0 e.symm) (hw.keep h.r hf2 (hf.mono (λk hk e=>by omega)))
theorem Sf.addT{w:World}{B:Bk}{R:Nat}{ad:OA}{nn cap p:Nat}{a1 a2 a3:OA}{c1 c2 c3:Nat}{x:Bu}{u1 u2:OA}{d1 d2 g1 g2:Nat}{X:World}{Y:World}{p0:Nat}{v:Wt}{u1':OA}{d1' g1':Nat}(h:Sf w B R ad nn cap p a1 a2 a3 c1 c2 c3 x u1 u2 d1 d2 g1 g2 X)(hw:Rd w R ad nn cap p0)(hf:Az (λq=>0<d1/\q=g1) X Y)(hr:Rw Y u1' g1' (x.wn+1) d1' 3 (BO (kF x.ws) (x.wn*3) (AR (Xi v))))(hg:(0<d1/\g1'=g1)\/X.1.size<=g1')(hv:rM v)(hn:x.wn<100):Sf w B R ad nn cap p a1 a2 a3 c1 c2 c3 (dS x v) u1' u2 d1' d2 g1' g2 (Y.setCell ⟨w.1.size+1+1,0,none⟩ (.l u1' (x.wn+1) d1')):=by
 have hR:=hw.lt;have hl:=h.u.lt;have hw2:∀h0:0<d2,g2<X.1.size:=λh0=>(h.w2.room h0).lt;have f1:Az (λq=>q=R) w Y:=⟨hf.os.trans h.f.os,hf.tape.trans h.f.tape,hf.output.trans h.f.output,AT h.f.size hf.size,λk hk hn=>(hf.block k (Ac hk h.f.size) (λe=>by have:=h.h1 e.1;omega)).trans (h.f.block k hk hn)⟩;have r1:Rd Y R ad nn cap p:=hw.keep h.r f1 (hf.mono (λk hk e=>by have:=h.h1 hk.1;omega));have F:=(Az.refl (λq=>q=w.1.size+1+1) Y).setCell (p:=⟨w.1.size+1+1,0,none⟩) rfl (.l u1' (x.wn+1) d1');have f2:=f1.far (z:=w.1.size+1+1) Za 0 (.l u1' (x.wn+1) d1');have S:=h.s.fr hf (λe=>by have:=h.h1 e.1;omega);have A:=h.a.fr hf (λe=>by have:=h.h1 e.1;omega);have U:=h.u.fr hf (λe=>by have:=h.h1 e.1;omega);have W2:=h.w2.fr hf (λh0 e=>h.ne e.1 h0 e.2.symm);have gl:0<d1'->w.1.size+1+1+1<=g1':=λ_=>by
  rcases hg with⟨h0,e⟩|e;.have:=h.h1 h0;omega
  .omega
 refine⟨f2,hw.far r1 Za _ _,S.fr F Za,A.fr F Za,(U.set (o:=0) Za _).congr (λj hj=>?_),⟨hr.addr,hr.le,λh0=>(hr.fr F (λh0=>by have:=gl h0;omega)).room h0,λj hj=>by show _=some (kF (Q5 x.ws x.wn v) j);rw[<-pA x.ws x.wn v j hj];exact(hr.fr F (λh0=>by have:=gl h0;omega)).cell j hj⟩,W2.fr F (λh0=>by have:=(h.h2 h0).1;omega),gl,λh0=>⟨(h.h2 h0).1,((h.h2 h0).2.fr hf (λe=>h.ne e.1 h0 e.2.symm) (hw2 h0)).fr F (by have:=(h.h2 h0).1;omega) (W2.room h0).lt⟩,λ_ h0=>?_,h.i.addT hv hn,(h.un.fr hf hl (λe=>by have:=h.h1 e.1;omega)).set (U.cell 0 Zb) (λs e=>by cases e)⟩;.rcases(show j=0\/j=1 by omega)with rfl|rfl<;>rfl
 .rcases hg with⟨h1,e⟩|e;.rw[e];exact h.ne h1 h0
  .have:=hw2 h0;omega
theorem Sf.addR{w:World}{B:Bk}{R:Nat}{ad:OA}{nn cap p:Nat}{a1 a2 a3:OA}{c1 c2 c3:Nat}{x:Bu}{u1 u2:OA}{d1 d2 g1 g2:Nat}{X:World}{Y:World}{p0:Nat}{v:Wr}{u2':OA}{d2' g2':Nat}(h:Sf w B R ad nn cap p a1 a2 a3 c1 c2 c3 x u1 u2 d1 d2 g1 g2 X)(hw:Rd w R ad nn cap p0)(hf:Az (λq=>0<d2/\q=g2) X Y)(hr:Rw Y u2' g2' (x.rn+1) d2' 6 (Qp (Q5 x.rs x.rn v)))(hp:Sq Y g2' ((x.rn+1)*6))(hg:(0<d2/\g2'=g2)\/X.1.size<=g2')(hv:Wd v)(hn:x.rn<100):Sf w B R ad nn cap p a1 a2 a3 c1 c2 c3 (Xw x v) u1 u2' d1 d2' g1 g2' (Y.setCell ⟨w.1.size+1+1,1,none⟩ (.l u2' (x.rn+1) d2')):=by
 have hR:=hw.lt;have hl:=h.u.lt;have hw1:∀h0:0<d1,g1<X.1.size:=λh0=>(h.w1.room h0).lt;have f1:Az (λq=>q=R) w Y:=⟨hf.os.trans h.f.os,hf.tape.trans h.f.tape,hf.output.trans h.f.output,AT h.f.size hf.size,λk hk hn=>(hf.block k (Ac hk h.f.size) (λe=>by have:=(h.h2 e.1).1;omega)).trans (h.f.block k hk hn)⟩;have r1:Rd Y R ad nn cap p:=hw.keep h.r f1 (hf.mono (λk hk e=>by have:=(h.h2 hk.1).1;omega));have F:=(Az.refl (λq=>q=w.1.size+1+1) Y).setCell (p:=⟨w.1.size+1+1,1,none⟩) rfl (.l u2' (x.rn+1) d2');have f2:=f1.far (z:=w.1.size+1+1) Za 1 (.l u2' (x.rn+1) d2');have S:=h.s.fr hf (λe=>by have:=(h.h2 e.1).1;omega);have A:=h.a.fr hf (λe=>by have:=(h.h2 e.1).1;omega);have U:=h.u.fr hf (λe=>by have:=(h.h2 e.1).1;omega);have W1:=h.w1.fr hf (λh0 e=>h.ne h0 e.1 e.2);have gl:0<d2'->w.1.size+1+1+1<=g2':=λ_=>by
  rcases hg with⟨h0,e⟩|e;.have:=(h.h2 h0).1;omega
  .omega
 refine⟨f2,hw.far r1 Za _ _,S.fr F Za,A.fr F Za,(U.set (o:=1) Za _).congr (λj hj=>?_),W1.fr F (λh0=>by have:=h.h1 h0;omega),hr.fr F (λh0=>by have:=gl h0;omega),h.h1,λh0=>⟨gl h0,hp.fr F (by have:=gl h0;omega) (hr.room h0).lt⟩,λh0 _=>?_,h.i.addR hv hn,(h.un.fr hf hl (λe=>by have:=(h.h2 e.1).1;omega)).set (U.cell 1 Zb) (λs e=>by cases e)⟩;.rcases(show j=0\/j=1 by omega)with rfl|rfl<;>rfl
 .rcases hg with⟨h1,e⟩|e;.rw[e];exact h.ne h0 h1
  .have:=hw1 h0;omega
theorem wW{B:Bk}{a1 a2 a3:OA}{c1 c2 c3:Nat}(w:World):MG (((w.alloc (.cells (vB B a1 a2 a3 c1 c2 c3) 27)).alloc (.cells #[.l none 0 0,.l none 0 0] 106)).alloc (.cells #[.l none 0 0,.l none 0 0] 106)) (w.1.size+1+1):=λj s e=>by have n:=Ak ((w.alloc (.cells (vB B a1 a2 a3 c1 c2 c3) 27)).alloc (.cells #[.l none 0 0,.l none 0 0] 106)) #[.l none 0 0,.l none 0 0] 106 j;rw[Aw,Aw]at n;rw[n]at e;match j,e with
 |0,e=>cases e
 |1,e=>cases e
 |n+2,e=>simp at e
theorem qM (w:World)(B:Bk)(R:Nat)(ad:OA)(nn cap p:Nat)(a1 a2 a3:OA)(c1 c2 c3:Nat)(hr:Rd w R ad nn cap p):Sf w B R ad nn cap p a1 a2 a3 c1 c2 c3 ⟨0,λ_=>⟨⟨#[]⟩,⟨#[]⟩,0⟩,0,λ_=>⟨0,⟨#[]⟩,⟨#[]⟩,0,⟨#[]⟩,⟨#[]⟩⟩⟩ none none 0 0 0 0 (((w.alloc (.cells (vB B a1 a2 a3 c1 c2 c3) 27)).alloc (.cells #[.l none 0 0,.l none 0 0] 106)).alloc (.cells #[.l none 0 0,.l none 0 0] 106)):=by have hb:Below w.1.size w (((w.alloc (.cells (vB B a1 a2 a3 c1 c2 c3) 27)).alloc (.cells #[.l none 0 0,.l none 0 0] 106)).alloc (.cells #[.l none 0 0,.l none 0 0] 106)):=(((Ao _ _).alloc uK _).alloc Zc _).alloc Zd _;have h1:=AN.new (w:=w.alloc (.cells (vB B a1 a2 a3 c1 c2 c3) 27)) (l:=[.l none 0 0,.l none 0 0]) (t:=106) EF;rw[Aw]at h1;have h2:=AN.new (w:=(w.alloc (.cells (vB B a1 a2 a3 c1 c2 c3) 27)).alloc (.cells #[.l none 0 0,.l none 0 0] 106)) (l:=[.l none 0 0,.l none 0 0]) (t:=106) EF;rw[Aw,Aw]at h2;exact⟨Aq hb,hr.below hb,AN.new (l:=(Qq B a1 a2 a3 c1 c2 c3)) ((An _ _).alloc Zc _),h1.below AG Zc,h2,⟨λh=>absurd h (AY _),AD _,λh=>absurd h (AY _),λj hj=>absurd hj Zc⟩,⟨λh=>absurd h (AY _),AD _,λh=>absurd h (AY _),λj hj=>absurd hj Zc⟩,λh=>absurd h (AY _),λh=>absurd h (AY _),λh=>absurd h (AY _),⟨At _,At _,λi hi=>absurd hi (Aj _),λi hi=>absurd hi (Aj _)⟩,wW _⟩
end Go.Proofs.Ytnnjcenacidceaa
namespace Go.Proofs.Ytnnjcenacidceaa
open Go.RowKit Go.Maps Go.Proofs.Try
theorem SN{x:Ob}{n:Int}:Bg x n=true↔Bv x.kind=true/\Bv x.name=true/\(1<=x.ver/\x.ver<=n)/\(1<=x.born/\x.born<=x.ver)/\x.text.size<=300/\x.hn<=5/\Sw x.hn x.hs=true:=by
 unfold Bg EB;simp only[Al,decide_eq_true_eq];constructor;.rintro⟨a,b,c,d,e,f,g⟩;exact⟨a,b,MJ c,MJ d,e,f,g⟩
 .rintro⟨a,b,c,d,e,f,g⟩;exact⟨a,b,K6 c,K6 d,e,f,g⟩
theorem NT{B:Bk}{v:Wr}(h:Ce B.os v.kind v.name B.on=true):∃i,i<B.on/\BV B v=B.os i/\(B.os i).kind=v.kind/\(B.os i).name=v.name:=by unfold Ce at h;obtain⟨i,hi⟩:=Option.isSome_iff_exists.1 h;obtain⟨a,b,c⟩:=Oh hi;exact⟨i,a,by unfold BV BN;rw[hi],b,c⟩
theorem XQ{B B1:Bk}{v:Wr}(e1:B1.on=B.on)(e2:B1.os=B.os)(e3:B1.now=B.now)(h:VB B1)(hok:Nv B v)(hc:BJ B v=0):Bg (Cr B v) (B.now+1)=true:=by
 obtain⟨c0,cn⟩:=M6 hc;have hfd:=R4 c0;obtain⟨n1,n2,n3,n4,n5⟩:=iB hok.wr;have hh:=U6 hok hc;have now0:=hok.now0;rw[SN];by_cases h1:v.op=1
 .have e:Cr B v=⟨v.kind,v.name,B.now+1,B.now+1,v.text,false,if PE v.hold then 0 else 1,λ_=>v.hold⟩:=by unfold Cr MY;rw[if_pos h1]
  rw[e]at hh⊢;refine⟨n1,n2,⟨by show 1<=B.now+1;omega,K7 _⟩,⟨by show 1<=B.now+1;omega,K7 _⟩,n3,hh.1,V6 hh.2 λi hi=>?_⟩;show Bv v.hold=true;rcases n4 with q|q;.have hi:i<(if PE v.hold then 0 else 1):=hi;rw[q]at hi;exact absurd hi (Aj _)
  .exact q
 .have hf:Ce B.os v.kind v.name B.on=true:=by rw[decide_eq_false h1]at hfd;simpa using hfd
  obtain⟨i,hi,ei,k1,k2⟩:=NT hf;have hp:=(h.fit i (by rw[e1];exact hi)).1;rw[e2,e3,SN,<-ei]at hp;obtain⟨p1,p2,p3,p4,p5,p6,p7⟩:=hp;have nm:=Pd p7;by_cases h2:v.op=2
  .have e:Cr B v=⟨(BV B v).kind,(BV B v).name,B.now+1,(BV B v).born,v.text,(BV B v).ending,(BV B v).hn,(BV B v).hs⟩:=by unfold Cr MY;rw[if_neg h1,if_pos h2]
   rw[e];exact⟨p1,p2,⟨by show 1<=B.now+1;omega,K7 _⟩,⟨p4.1,by show(BV B v).born<=B.now+1;omega⟩,n3,p6,p7⟩
  .by_cases h3:v.op=3
   .have e:Cr B v=⟨(BV B v).kind,(BV B v).name,B.now+1,(BV B v).born,(BV B v).text,true,(BV B v).hn,(BV B v).hs⟩:=by unfold Cr MY;rw[if_neg h1,if_neg h2,if_pos h3]
    rw[e];exact⟨p1,p2,⟨by show 1<=B.now+1;omega,K7 _⟩,⟨p4.1,by show(BV B v).born<=B.now+1;omega⟩,p5,p6,p7⟩
   .by_cases h4:v.op=4
    .have e:Cr B v=⟨(BV B v).kind,(BV B v).name,B.now+1,(BV B v).born,(BV B v).text,(BV B v).ending,(BV B v).hn+1,Qt (BV B v).hs (K1 (BV B v).hs v.hold (BV B v).hn) v.hold⟩:=by unfold Cr MY;rw[if_neg h1,if_neg h2,if_neg h3,if_pos h4]
     rw[e]at hh⊢;refine⟨p1,p2,⟨by show 1<=B.now+1;omega,K7 _⟩,⟨p4.1,by show(BV B v).born<=B.now+1;omega⟩,p5,hh.1,V6 hh.2 λj hj=>?_⟩;have hj:j<(BV B v).hn+1:=hj;have hk:=(MK (BV B v).hs v.hold (BV B v).hn).1;show Bv (Qt _ _ _ j)=true;unfold Qt;split;.exact nm j Za
     .split
      .have:=dQ n5 (AA h4);rcases n4 with q|q;.rw[q]at this;cases this
       .exact q
      .exact nm (j-1) Za
    .have e:Cr B v=⟨(BV B v).kind,(BV B v).name,B.now+1,(BV B v).born,(BV B v).text,(BV B v).ending,(BV B v).hn-1,Nc (BV B v).hs (K1 (BV B v).hs v.hold (BV B v).hn)⟩:=by unfold Cr MY;rw[if_neg h1,if_neg h2,if_neg h3,if_neg h4]
     rw[e]at hh⊢;refine⟨p1,p2,⟨by show 1<=B.now+1;omega,K7 _⟩,⟨p4.1,by show(BV B v).born<=B.now+1;omega⟩,p5,hh.1,V6 hh.2 λj hj=>?_⟩;have hj:j<(BV B v).hn-1:=hj;show Bv (Nc _ _ j)=true;unfold Nc;split;.exact nm j Za
     .exact nm (j+1) Za
theorem aP{B:Bk}{v:Wr}(hfd:¬(Ce B.os v.kind v.name B.on=decide (v.op=1))):(Cr B v).kind=v.kind/\(Cr B v).name=v.name/\(v.op=1->(Cr B v).born=B.now+1/\(Cr B v).ending=false)/\(¬v.op=1->(Cr B v).born=(BV B v).born):=by
 by_cases h1:v.op=1
 .have e:Cr B v=⟨v.kind,v.name,B.now+1,B.now+1,v.text,false,if PE v.hold then 0 else 1,λ_=>v.hold⟩:=by unfold Cr MY;rw[if_pos h1]
  rw[e];exact⟨rfl,rfl,λ_=>⟨rfl,rfl⟩,λh=>absurd h1 h⟩
 .have hf:Ce B.os v.kind v.name B.on=true:=by rw[decide_eq_false h1]at hfd;simpa using hfd
  obtain⟨i,hi,ei,k1,k2⟩:=NT hf;have g:(Cr B v).kind=(BV B v).kind/\(Cr B v).name=(BV B v).name/\(Cr B v).born=(BV B v).born:=by
   unfold Cr MY;rw[if_neg h1];split;.exact⟨rfl,rfl,rfl⟩
   .split;.exact⟨rfl,rfl,rfl⟩
    .split<;>exact⟨rfl,rfl,rfl⟩
  rw[ei]at g;exact⟨g.1.trans k1,g.2.1.trans k2,λh=>absurd h h1,λ_=>by rw[ei];exact g.2.2⟩
theorem oK{B:Bk}{v:Wr}(hb:(Cr B v).born<(Cr B v).ver\/(Cr B v).ending=false):(if CX B v then NA (Cr B v)else CW (Cr B v))=true:=by unfold CX;cases hs:CW (Cr B v)with
 |true=>rfl
 |false=>
  show NA (Cr B v)=true;unfold CW at hs;simp only[Bool.or_eq_false_iff,Bool.not_eq_false',decide_eq_false_iff_not]at hs;unfold NA;rcases hb with hb|hb;.rw[hs.1,decide_eq_true (show(Cr B v).hn=0 by omega),decide_eq_true hb];rfl
  .rw[hs.1]at hb;cases hb
theorem fB{B B1:Bk}{v:Wr}(e1:B1.on=B.on)(e2:B1.os=B.os)(e3:B1.now=B.now)(h:VB B1)(h2:B1.hn<200)(hok:Nv B v)(hc:BJ B v=0):nC B1 (Ec B v) (LX B v).on (LX B v).os:=by
 obtain⟨c0,cn⟩:=M6 hc;have hfd:=R4 c0;obtain⟨k1,k2,k3,k4⟩:=aP hfd;have hv:(Cr B v).ver=B.now+1:=gF B v _;have hA:Vm (LX B v).on (LX B v).os:=by rw[TI,NR];exact Xh (TI.1 hok.asc)
 have hfrom:∀i,i<(LX B v).on->((LX B v).os i=Cr B v/\CX B v=false)\/∃j,j<B.on/\(LX B v).os i=B.os j/\¬bK (B.os j) (Cr B v):=λi hi=>by
  have hm:(LX B v).os i∈NH (LX B v).on (LX B v).os:=OG.2 ⟨i,hi,rfl⟩;rw[NR]at hm;rcases Yl hm with q|⟨q1,q2⟩;.exact AA q
  .obtain⟨j,j1,j2⟩:=OG.1 q1;refine AC ⟨j,j1,j2.symm,λk=>q2 ?_⟩;rw[<-j2];exact(Vj _ _).2 k
 have hver:∀j,j<B.on->(B.os j).ver<=B.now:=λj hj=>by have:=Mo (h.fit j (by rw[e1];exact hj)).1;rw[e2,e3]at this;exact this.2.2.2
 have hborn:∀j,j<B.on->(B.os j).born<=(B.os j).ver:=λj hj=>by have:=Mo (h.fit j (by rw[e1];exact hj)).1;rw[e2]at this;exact this.2.1
 refine⟨h2,by rw[e3];exact cn,cQ hok hc,eM hA,?_,λi hi=>?_,λj hj hk=>?_,λg=>?_,by rw[e3];rfl,by rw[e3];exact hv,by rw[e3];exact XQ e1 e2 e3 h hok hc,?_,?_⟩
 .unfold EX;refine AP.2 λi hi=>AP.2 λk hk=>decide_eq_true λe=>?_;have hne:¬(LX B v).os k=(LX B v).os i:=λq=>by have:=hA k i hk hi;rw[q,lU]at this;cases this
  rcases hfrom i hi with⟨a,_⟩|⟨j,j1,j2,_⟩<;>rcases hfrom k Za with⟨b,_⟩|⟨l,l1,l2,_⟩;.exact hne (b.trans a.symm)
  .rw[a,l2,hv]at e;have:=hver l l1;omega
  .rw[b,j2,hv]at e;have:=hver j j1;omega
  .rw[j2,l2]at e hne;have hjl:¬l=j:=λq=>hne (by rw[q]);have vd:=h.vd;unfold EX at vd;rw[e1,e2]at vd;rcases Nat.lt_or_gt_of_ne hjl with q|q;.exact of_decide_eq_true (AP.1 (AP.1 vd j j1) l q) e
   .exact of_decide_eq_true (AP.1 (AP.1 vd l l1) j q) e.symm
 .rcases hfrom i hi with q|⟨j,j1,j2,j3⟩;.exact AA q
  .exact AC ⟨j,by rw[e1];exact j1,by rw[e2];exact j2,by rw[e2];exact j3⟩
 .rw[e1]at hj;rw[e2]at hk⊢;have:=XN (o:=Cr B v) (g:=CX B v) (OG.2 ⟨j,hj,rfl⟩:B.os j∈NH B.on B.os) (λq=>hk ((Vj _ _).1 q));rw[<-NR]at this;exact OG.1 this
 .have g:CX B v=false:=g;have:Cr B v∈NH (LX B v).on (LX B v).os:=by rw[NR,g];exact UO _ _
  exact OG.1 this
 .refine oK ?_;by_cases h1:v.op=1;.exact AC (k3 h1).2
  .have hf:Ce B.os v.kind v.name B.on=true:=by rw[decide_eq_false h1]at hfd;simpa using hfd
   obtain⟨i,hi,ei,_,_⟩:=NT hf;refine AA ?_;rw[k4 h1,hv,ei];have a:=hborn i hi;have b:=hver i hi;omega
 .show(match L6 B1.hs (Cr B v).kind (Cr B v).name B1.hn with|none=>Mh (Ec B v) B1.floor|some i=>LN (B1.hs i) (Ec B v))=true;by_cases h1:v.op=1
  .have hg:CX B v=false:=by unfold CX CW;rw[(k3 h1).2];rfl
   have hcr:Og (Ec B v)=true:=by show(!CX B v&&(Cr B v).born==B.now+1)=true;rw[hg,(k3 h1).1];simp
   cases q:L6 B1.hs (Cr B v).kind (Cr B v).name B1.hn with
   |none=>show Mh (Ec B v) B1.floor=true;unfold Mh;rw[hcr];rfl
   |some i=>
    show LN (B1.hs i) (Ec B v)=true;obtain⟨i1,i2,i3⟩:=Mn q;have o:=h.agH i i1;unfold Go.Proofs.Ytnnjcenacidceaa.agH at o;rw[i2,i3,q,e1,e2,k1,k2]at o;have hno:(Nq B.os v.kind v.name B.on).isSome=false:=by rw[decide_eq_true h1]at hfd;unfold Ce at hfd;simpa using hfd
    rw[hno]at o;have hgo:(B1.hs i).gone=true:=by simpa using o
    unfold LN;rw[hgo,hcr];rfl
  .have hf:Ce B.os v.kind v.name B.on=true:=by rw[decide_eq_false h1]at hfd;simpa using hfd
   obtain⟨i,hi,ei,m1,m2⟩:=NT hf;have a:=hborn i hi;have b:=hver i hi;have hcr:Og (Ec B v)=false:=by
    show(!CX B v&&(Cr B v).born==B.now+1)=false;have:((Cr B v).born==B.now+1)=false:=by rw[k4 h1,ei];simp;omega
    rw[this,Bool.and_false]
   have o:=h.agO i (by rw[e1];exact hi);unfold Go.Proofs.Ytnnjcenacidceaa.agO at o;rw[e2,m1,m2]at o;rw[k1,k2];cases q:L6 B1.hs v.kind v.name B1.hn with
   |none=>rw[q]at o;show Mh (Ec B v) B1.floor=true;unfold Mh;rw[hcr];have o:=of_decide_eq_true o;show decide ((Cr B v).born<=B1.floor)=true;rw[k4 h1,ei];exact decide_eq_true Za
   |some j=>rw[q]at o;have o:(!(B1.hs j).gone&&BR (B.os i) (B1.hs j).ob)=true:=o;simp only[Al,Bool.not_eq_true']at o;show LN (B1.hs j) (Ec B v)=true;unfold LN;rw[o.1,hcr];show((B1.hs j).ob.born==(Cr B v).born)=true;have s:=o.2;unfold BR at s;simp only[Al,decide_eq_true_eq]at s;rw[k4 h1,ei,s.2.2.2.1];simp
theorem RS{B:Bk}{v:Wr}(h:VB B)(hok:Nv B v)(hc:BJ B v=0):VB (LX B v):=by
 by_cases h2:B.hn=200
 .have d:=XJ h Za;have a:=eD d (fB (B:=B) (B1:=Mc B) rfl rfl rfl d (by show B.hn-1<200;omega) hok hc);have e:LX B v=MI (Mc B) (Ec B v) (LX B v).on (LX B v).os:=by unfold LX MI Mc sN Mk;simp[h2]
  rw[e];exact a
 .have a:=eD h (fB (B:=B) (B1:=B) rfl rfl rfl h (by have:=h.hn;omega) hok hc);have e:LX B v=MI B (Ec B v) (LX B v).on (LX B v).os:=by unfold LX MI sN Mk;simp[h2]
  rw[e];exact a
end Go.Proofs.Ytnnjcenacidceaa
