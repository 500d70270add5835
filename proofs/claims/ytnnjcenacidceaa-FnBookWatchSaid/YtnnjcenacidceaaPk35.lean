import Derived.Test.YtnnjcenacidceaaPk32
import Derived.Test.YtnnjcenacidceaaPk34
import Derived.Test.YtnnjcenacidceaaPk12
import Derived.Test.YtnnjcenacidceaaPk16
import Derived.Test.YtnnjcenacidceaaPk18
set_option maxRecDepth 100000
namespace Go.Proofs.Ytnnjcenacidceaa
open Go.RowKit Go.Maps Go.Proofs.Try
def UK (k:Ti)(c:Ca):Sa:=if c.num<k.num then⟨8,0,false⟩else if Ow c.bu=k.print then⟨k.code,k.ver,true⟩else⟨7,0,false⟩
theorem DZ.cells{W:World}{lo hi:Nat}{ad:OA}{n:Nat}{x:Nat->Ti}(h:DZ W lo hi ad n x):BS W lo hi ad (n*5) (K5 x):=by
 refine⟨λj hj=>?_,λj _=>L2 x j⟩;obtain⟨b,off,e1,e2,e3,e4⟩:=h (j/5) Za;obtain⟨t0,t1,t2,t3,t4⟩:=Ua x (j/5);refine⟨b,off,e1,e2,e3,?_⟩;rcases(show j%5=0\/j%5=1\/j%5=2\/j%5=3\/j%5=4 by omega)with r|r|r|r|r;.rw[show j=j/5*5 by omega,t0];exact e4.c0
 .rw[show j=j/5*5+1 by omega,t1,<-Bq];exact e4.c1
 .rw[show j=j/5*5+2 by omega,t2,<-Bq];exact e4.c2
 .rw[show j=j/5*5+3 by omega,t3,<-Bq];exact e4.c3
 .rw[show j=j/5*5+4 by omega,t4,<-Bq];exact e4.c4
theorem j6{W:World}{lo hi:Nat}{ad:OA}{n:Nat}{x:Nat->Ti}(h:BS W lo hi ad (n*5) (K5 x)):DZ W lo hi ad n x:=λi hi'=>by
 obtain⟨t0,t1,t2,t3,t4⟩:=Ua x i;obtain⟨b,off,e1,e2,e3,f0⟩:=h.at_ (i*5) Za;have g:∀r,r<5->W.cell? ⟨b,off+(i*5+r),none⟩=some (K5 x (i*5+r)):=λr hr=>by obtain⟨b',off',q1,_,_,q⟩:=h.at_ (i*5+r) Za;rw[e1]at q1;cases q1;exact q
 refine⟨b,off,e1,e2,e3,⟨by rw[f0,t0],?_,?_,?_,?_⟩⟩;.rw[Bq,g 1 Za,t1]
 .rw[Bq,g 2 Za,t2]
 .rw[Bq,g 3 Za,t3]
 .rw[Bq,g 4 Za,t4]
theorem DZ.frLo{w w':World}{lo hi hi':Nat}{ad:OA}{n:Nat}{x:Nat->Ti}{P:Nat->Prop}(h:DZ w lo hi ad n x)(hf:Az P w w')(hP:∀q,lo<=q->¬P q)(hz:hi<=w.1.size)(hh:hi<=hi'):DZ w' lo hi' ad n x:=λi hi'=>by obtain⟨b,off,e1,e2,e3,e4⟩:=h i hi';have c:∀{j u},w.cell? ⟨b,j,none⟩=some u->w'.cell? ⟨b,j,none⟩=some u:=λ{j u} q=>(hf.cell (p:=⟨b,j,none⟩) Zk (hP b e2)).trans q;exact⟨b,off,e1,e2,Za,⟨c e4.c0,c e4.c1,c e4.c2,c e4.c3,c e4.c4⟩⟩
theorem DZ.dn{w:World}{lo lo' hi:Nat}{ad:OA}{n:Nat}{x:Nat->Ti}(h:DZ w lo hi ad n x)(hl:lo'<=lo):DZ w lo' hi ad n x:=λi hi'=>by obtain⟨b,off,e1,e2,e3,e4⟩:=h i hi';exact⟨b,off,e1,Za,e3,e4⟩
theorem pZ (x:Nat->Ti)(k j:Nat):K5 x (k*5+j)=K5 (λi=>x (k+i)) j:=by unfold K5;rw[show(k*5+j)%5=j%5 by omega,show(k*5+j)/5=k+j/5 by omega]
structure E2 (A D:Nat)(X:World):Prop where
 a:Bo X A 5
 d:Bo X D 3
theorem E2.grow{A D:Nat}{X Y:World}(h:E2 A D X)(hb:Below X.1.size X Y):E2 A D Y:=⟨h.a.fr (Aq (P:=λ_=>False) hb) (λq=>q),h.d.fr (Aq (P:=λ_=>False) hb) (λq=>q)⟩
end Go.Proofs.Ytnnjcenacidceaa
