import Derived.Test.YtnnjcenacidceaaPk03
set_option maxRecDepth 100000
namespace Go.Proofs.Ytnnjcenacidceaa
open Go.RowKit Go.Proofs.Try
theorem Ms:(prog.info? 38).map (λi=>(i.zero,i.size,i.bytes))=some (some (.agg #[.s ByteArray.empty,.s ByteArray.empty,.i 0,.i 0,.s ByteArray.empty,.bool false,.l none 0 0]),7,96):=Ze
structure LT (w:World)(g m:Nat):Prop where
 has:∀j,j<m->∃u,w.cell? ⟨g,j,none⟩=some u
 free:∀j,w.frozen? ⟨g,j,none⟩=false
 lt:g<w.1.size
theorem LT.below{w w':World}{g m B:Nat}(h:LT w g m)(hb:Below B w w')(hg:g<B):LT w' g m:=by refine⟨λj hj=>?_,λj=>(hb.frozen (p:=⟨g,j,none⟩) hg).trans (h.free j),Ac h.lt hb.size⟩;obtain⟨u,hu⟩:=h.has j hj;exact⟨u,(hb.cell (p:=⟨g,j,none⟩) hg).trans hu⟩
theorem G8 (b:Nat):∀(vs:List Value)(o:Nat)(w:World),(w.setCells b o vs).1.size=w.1.size
 |[],_,_=>rfl
 |v::r,o,w=>by rw[World.setCells,G8 b r,Bj]
theorem LT.setCells{w:World}{g m o:Nat}(h:LT w g m)(vs:List Value)(ho:o+vs.length<=m):LT (w.setCells g o vs) g m:=by
 refine⟨λj hj=>?_,λj=>by rw[La];exact h.free j,by rw[G8];exact h.lt⟩;by_cases hj2:j<o\/o+vs.length<=j;.rw[KP g vs o w _ (λ_ _=>hj2)];exact h.has j hj
 .obtain⟨i,rfl⟩:∃i,j=o+i:=⟨j-o,Za⟩;have hi:i<vs.length:=Za;exact⟨vs[i],E1 g vs o w (λj hj=>by obtain⟨u,hu⟩:=h.has (o+j) Za;rw[hu];rfl) i hi⟩
theorem Lb (b:Nat):∀(vs:List Value)(o:Nat)(w:World),Fr b (b+1) w (w.setCells b o vs)
 |[],_,w=>Fr.refl _ _ w
 |v::r,o,w=>((Fr.refl b (b+1) w).setCell (p:=⟨b,o,none⟩) uK (By _) v).trans (Lb b r (o+1) _)
theorem KO:(prog.info? 40).map (λi=>(i.zero,i.size,i.bytes))=some (some (.agg #[.i 0,.bool false,.s ByteArray.empty,.s ByteArray.empty,.i 0,.i 0,.s ByteArray.empty,.bool false,.l none 0 0]),9,112):=Ze
theorem Dk.fr{w w':World}{b o:Nat}{x:Ch}{ad:OA}{cap:Nat}(h:Dk w b o x ad cap)(e:∀j,j<9->w'.cell? ⟨b,o+j,none⟩=w.cell? ⟨b,o+j,none⟩):Dk w' b o x ad cap:=⟨(e 0 Za).trans h.c0,(e 1 Za).trans h.c1,(e 2 Za).trans h.c2,(e 3 Za).trans h.c3,(e 4 Za).trans h.c4,(e 5 Za).trans h.c5,(e 6 Za).trans h.c6,(e 7 Za).trans h.c7,(e 8 Za).trans h.c8⟩
theorem LC:(prog.info? 89).map (λi=>(i.zero,i.size,i.bytes))=some (some (.agg #[.s ByteArray.empty,.i 0,.s ByteArray.empty,.i 0,.i 0]),5,56):=Ze
theorem BA{w w1:World}{c0 c1 c2:Array Value}{t0 t1 t2:TypeId}(hb:Below (((w.alloc (.cells c0 t0)).alloc (.cells c1 t1)).alloc (.cells c2 t2)).1.size (((w.alloc (.cells c0 t0)).alloc (.cells c1 t1)).alloc (.cells c2 t2)) w1):(∀i,w1.cell? ⟨w.1.size,i,none⟩=c0[i]?)/\(∀i,w1.cell? ⟨w.1.size+1,i,none⟩=c1[i]?)/\(∀i,w1.cell? ⟨w.1.size+1+1,i,none⟩=c2[i]?)/\(∀i,w1.frozen? ⟨w.1.size+1,i,none⟩=false)/\(∀i,w1.frozen? ⟨w.1.size+1+1,i,none⟩=false):=by
 refine⟨λi=>?_,λi=>?_,λi=>?_,λi=>?_,λi=>?_⟩;.rw[hb.cell (p:=⟨w.1.size,i,none⟩) Zd];rw[Ap _ _ _ VG,Ap _ _ _ VG,CK _ _ _ _ rfl]
 .rw[hb.cell (p:=⟨w.1.size+1,i,none⟩) Zc];rw[Ap _ _ _ Zc,CK _ _ _ _ Zc]
 .rw[hb.cell (p:=⟨w.1.size+1+1,i,none⟩) Zc];rw[CK _ _ _ _ Zc]
 .rw[hb.frozen (p:=⟨w.1.size+1,i,none⟩) Zc];rw[PN _ _ _ Zc,Fv _ _ _ _ Zc]
 .rw[hb.frozen (p:=⟨w.1.size+1+1,i,none⟩) Zc];rw[Fv _ _ _ _ Zc]
end Go.Proofs.Ytnnjcenacidceaa
