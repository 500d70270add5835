import Derived.Test.YtofencldleijcaaGreatPk35
import Derived.Test.YtofencldleijcaaGreatPk37
import Derived.Test.YtofencldleijcaaGreatPk11
import Derived.Test.YtofencldleijcaaGreatPk17
import Derived.Test.YtofencldleijcaaGreatPk19
set_option maxRecDepth 100000
namespace Go.Proofs.YtofencldleijcaaGreat
open Go.RowKit Go.Maps Go.Proofs.Tryz
def Ru (k:Ti)(c:Ca):Sa:=if c.num<k.num then⟨8,0,false⟩else if KL c.bu=k.print then⟨k.code,k.ver,true⟩else⟨7,0,false⟩
theorem C5.cells{W:World}{lo hi:Nat}{ad:OA}{n:Nat}{x:Nat->Ti}(h:C5 W lo hi ad n x):BR W lo hi ad (n*5) (GK x):=by
 refine⟨λj hj=>?_,λj _=>Jo x j⟩;obtain⟨b,off,e1,e2,e3,e4⟩:=h (j/5) Zb;obtain⟨t0,t1,t2,t3,t4⟩:=WF x (j/5);refine⟨b,off,e1,e2,e3,?_⟩;rcases(show j%5=0\/j%5=1\/j%5=2\/j%5=3\/j%5=4 by omega)with r|r|r|r|r;.rw[show j=j/5*5 by omega,t0];exact e4.c0
 .rw[show j=j/5*5+1 by omega,t1,<-AY];exact e4.c1
 .rw[show j=j/5*5+2 by omega,t2,<-AY];exact e4.c2
 .rw[show j=j/5*5+3 by omega,t3,<-AY];exact e4.c3
 .rw[show j=j/5*5+4 by omega,t4,<-AY];exact e4.c4
theorem ZR{W:World}{lo hi:Nat}{ad:OA}{n:Nat}{x:Nat->Ti}(h:BR W lo hi ad (n*5) (GK x)):C5 W lo hi ad n x:=λi hi'=>by
 obtain⟨t0,t1,t2,t3,t4⟩:=WF x i;obtain⟨b,off,e1,e2,e3,f0⟩:=h.at_ (i*5) Zb;have g:∀r,r<5->W.cell? ⟨b,off+(i*5+r),none⟩=some (GK x (i*5+r)):=λr hr=>by obtain⟨b',off',q1,_,_,q⟩:=h.at_ (i*5+r) Zb;rw[e1]at q1;cases q1;exact q
 refine⟨b,off,e1,e2,e3,⟨by rw[f0,t0],?_,?_,?_,?_⟩⟩;.rw[AY,g 1 Zb,t1]
 .rw[AY,g 2 Zb,t2]
 .rw[AY,g 3 Zb,t3]
 .rw[AY,g 4 Zb,t4]
theorem C5.frLo{w w':World}{lo hi hi':Nat}{ad:OA}{n:Nat}{x:Nat->Ti}{P:Nat->Prop}(h:C5 w lo hi ad n x)(hf:AB P w w')(hP:∀q,lo<=q->¬P q)(hz:hi<=w.1.size)(hh:hi<=hi'):C5 w' lo hi' ad n x:=λi hi'=>by obtain⟨b,off,e1,e2,e3,e4⟩:=h i hi';have c:∀{j u},w.cell? ⟨b,j,none⟩=some u->w'.cell? ⟨b,j,none⟩=some u:=λ{j u}q=>(hf.cell (p:=⟨b,j,none⟩) Zq (hP b e2)).trans q;exact⟨b,off,e1,e2,Zb,⟨c e4.c0,c e4.c1,c e4.c2,c e4.c3,c e4.c4⟩⟩
theorem C5.dn{w:World}{lo lo' hi:Nat}{ad:OA}{n:Nat}{x:Nat->Ti}(h:C5 w lo hi ad n x)(hl:lo'<=lo):C5 w lo' hi ad n x:=λi hi'=>by obtain⟨b,off,e1,e2,e3,e4⟩:=h i hi';exact⟨b,off,e1,Zb,e3,e4⟩
theorem gK (x:Nat->Ti)(k j:Nat):GK x (k*5+j)=GK (λi=>x (k+i)) j:=by unfold GK;rw[show(k*5+j)%5=j%5 by omega,show(k*5+j)/5=k+j/5 by omega]
structure E2 (A D:Nat)(X:World):Prop where
 a:Bo X A 5
 d:Bo X D 3
theorem E2.grow{A D:Nat}{X Y:World}(h:E2 A D X)(hb:Below X.1.size X Y):E2 A D Y:=⟨h.a.fr (Ap (P:=λ_=>False) hb) (λq=>q),h.d.fr (Ap (P:=λ_=>False) hb) (λq=>q)⟩
end Go.Proofs.YtofencldleijcaaGreat
