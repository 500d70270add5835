import Derived.Test.YtnnjcenacidceaaGreatPk32
import Derived.Test.YtnnjcenacidceaaGreatPk34
import Derived.Test.YtnnjcenacidceaaGreatPk12
import Derived.Test.YtnnjcenacidceaaGreatPk16
import Derived.Test.YtnnjcenacidceaaGreatPk18
set_option maxRecDepth 100000
namespace Go.Proofs.YtnnjcenacidceaaGreat
open Go.RowKit Go.Maps Go.Proofs.Tryz
def VM (k:Ti)(c:Ca):Sa:=if c.num<k.num then⟨8,0,false⟩else if OG c.bu=k.print then⟨k.code,k.ver,true⟩else⟨7,0,false⟩
theorem DY.cells{W:World}{lo hi:Nat}{ad:OA}{n:Nat}{x:Nat->Ti}(h:DY W lo hi ad n x):BL W lo hi ad (n*5) (Lo x):=by
 refine⟨λj hj=>?_,λj _=>Ml x j⟩;obtain⟨b,off,e1,e2,e3,e4⟩:=h (j/5) Za;obtain⟨t0,t1,t2,t3,t4⟩:=TO x (j/5);refine⟨b,off,e1,e2,e3,?_⟩;rcases(show j%5=0\/j%5=1\/j%5=2\/j%5=3\/j%5=4 by omega)with r|r|r|r|r;.rw[show j=j/5*5 by omega,t0];exact e4.c0
 .rw[show j=j/5*5+1 by omega,t1,<-Bf];exact e4.c1
 .rw[show j=j/5*5+2 by omega,t2,<-Bf];exact e4.c2
 .rw[show j=j/5*5+3 by omega,t3,<-Bf];exact e4.c3
 .rw[show j=j/5*5+4 by omega,t4,<-Bf];exact e4.c4
theorem kZ{W:World}{lo hi:Nat}{ad:OA}{n:Nat}{x:Nat->Ti}(h:BL W lo hi ad (n*5) (Lo x)):DY W lo hi ad n x:=λi hi'=>by
 obtain⟨t0,t1,t2,t3,t4⟩:=TO x i;obtain⟨b,off,e1,e2,e3,f0⟩:=h.at_ (i*5) Za;have g:∀r,r<5->W.cell? ⟨b,off+(i*5+r),none⟩=some (Lo x (i*5+r)):=λr hr=>by obtain⟨b',off',q1,_,_,q⟩:=h.at_ (i*5+r) Za;rw[e1]at q1;cases q1;exact q
 refine⟨b,off,e1,e2,e3,⟨by rw[f0,t0],?_,?_,?_,?_⟩⟩;.rw[Bf,g 1 Za,t1]
 .rw[Bf,g 2 Za,t2]
 .rw[Bf,g 3 Za,t3]
 .rw[Bf,g 4 Za,t4]
theorem DY.frLo{w w':World}{lo hi hi':Nat}{ad:OA}{n:Nat}{x:Nat->Ti}{P:Nat->Prop}(h:DY w lo hi ad n x)(hf:Ay P w w')(hP:∀q,lo<=q->¬P q)(hz:hi<=w.1.size)(hh:hi<=hi'):DY w' lo hi' ad n x:=λi hi'=>by obtain⟨b,off,e1,e2,e3,e4⟩:=h i hi';have c:∀{j u},w.cell? ⟨b,j,none⟩=some u->w'.cell? ⟨b,j,none⟩=some u:=λ{j u} q=>(hf.cell (p:=⟨b,j,none⟩) Zk (hP b e2)).trans q;exact⟨b,off,e1,e2,Za,⟨c e4.c0,c e4.c1,c e4.c2,c e4.c3,c e4.c4⟩⟩
theorem DY.dn{w:World}{lo lo' hi:Nat}{ad:OA}{n:Nat}{x:Nat->Ti}(h:DY w lo hi ad n x)(hl:lo'<=lo):DY w lo' hi ad n x:=λi hi'=>by obtain⟨b,off,e1,e2,e3,e4⟩:=h i hi';exact⟨b,off,e1,Za,e3,e4⟩
theorem pM (x:Nat->Ti)(k j:Nat):Lo x (k*5+j)=Lo (λi=>x (k+i)) j:=by unfold Lo;rw[show(k*5+j)%5=j%5 by omega,show(k*5+j)/5=k+j/5 by omega]
structure E2 (A D:Nat)(X:World):Prop where
 a:Bo X A 5
 d:Bo X D 3
theorem E2.grow{A D:Nat}{X Y:World}(h:E2 A D X)(hb:Below X.1.size X Y):E2 A D Y:=⟨h.a.fr (Ar (P:=λ_=>False) hb) (λq=>q),h.d.fr (Ar (P:=λ_=>False) hb) (λq=>q)⟩
end Go.Proofs.YtnnjcenacidceaaGreat
