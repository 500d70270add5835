import Derived.Test.YtdknjmgdgnmhjaaGreatPk22
import Derived.Test.YtdknjmgdgnmhjaaGreatPk25
import Derived.Defers
import Derived.Recover
set_option maxRecDepth 100000
namespace Go.Proofs.YtdknjmgdgnmhjaaGreat
open Go.RowKit Go.Maps Go.Proofs.Tryz
variable {W w:World}{lo hi n:Nat}{ad:OA}{x:Nat→Ti}
def XK (k:Ti)(c:Ca):Sa:=if c.num<k.num then⟨8,0,false⟩else if M6 c.bu=k.print then⟨k.code,k.t,true⟩else⟨7,0,false⟩
theorem DD.cells (h:DD W lo hi ad n x):Cr W lo hi ad (n*5) (G5 x):=by
 refine⟨λj hj=>?_,λj _=>Jl x j⟩;obtain⟨b,off,e1,e2,e3,e4⟩:=h (j/5) Za;obtain⟨t0,t1,t2,t3,t4⟩:=Vi x (j/5);refine⟨b,off,e1,e2,e3,?_⟩;rcases(show j%5=0\/j%5=1\/j%5=2\/j%5=3\/j%5=4 by omega)with r|r|r|r|r;.rw[show j=j/5*5 by omega,t0];exact e4.c0
 .rw[show j=j/5*5+1 by omega,t1,<-BN];exact e4.c1
 .rw[show j=j/5*5+2 by omega,t2,<-BN];exact e4.c2
 .rw[show j=j/5*5+3 by omega,t3,<-BN];exact e4.c3
 .rw[show j=j/5*5+4 by omega,t4,<-BN];exact e4.c4
theorem pp (h:Cr W lo hi ad (n*5) (G5 x)):DD W lo hi ad n x:=λi hi'=>by
 obtain⟨t0,t1,t2,t3,t4⟩:=Vi x i;obtain⟨b,off,e1,e2,e3,f0⟩:=h.d (i*5) Za;have g:∀r,r<5->W.cell? ⟨b,off+(i*5+r),none⟩=some (G5 x (i*5+r)):=λr hr=>by obtain⟨b',off',q1,_,_,q⟩:=h.d (i*5+r) Za;rw[e1]at q1;cases q1;exact q
 refine⟨b,off,e1,e2,e3,⟨by rw[f0,t0],?_,?_,?_,?_⟩⟩;.rw[BN,g 1 Za,t1]
 .rw[BN,g 2 Za,t2]
 .rw[BN,g 3 Za,t3]
 .rw[BN,g 4 Za,t4]
theorem DD.frLo{w':World}{hi':Nat}{P:Nat->Prop}(h:DD w lo hi ad n x)(hf:AB P w w')(hP:∀q,lo<=q->¬P q)(hz:hi<=w.1.size)(hh:hi<=hi'):DD w' lo hi' ad n x:=λi hi'=>by obtain⟨b,off,e1,e2,e3,e4⟩:=h i hi';have c:∀{j u},w.cell? ⟨b,j,none⟩=some u->w'.cell? ⟨b,j,none⟩=some u:=λ{j u} q=>(hf.cell (p:=⟨b,j,none⟩) Zj (hP b e2)).trans q;exact⟨b,off,e1,e2,Za,⟨c e4.c0,c e4.c1,c e4.c2,c e4.c3,c e4.c4⟩⟩
theorem DD.dn{lo':Nat}(h:DD w lo hi ad n x)(hl:lo'<=lo):DD w lo' hi ad n x:=λi hi'=>by obtain⟨b,off,e1,e2,e3,e4⟩:=h i hi';exact⟨b,off,e1,Za,e3,e4⟩
theorem Abl (x:Nat->Ti)(k j:Nat):G5 x (k*5+j)=G5 (λi=>x (k+i)) j:=by unfold G5;rw[show(k*5+j)%5=j%5 by omega,show(k*5+j)/5=k+j/5 by omega]
structure E2 (A D:Nat)(X:World):Prop where
 a:Bo X A 5
 d:Bo X D 3
theorem E2.grow{A D:Nat}{X Y:World}(h:E2 A D X)(hb:Below X.1.size X Y):E2 A D Y:=⟨h.a.fr (Aj (P:=λ_=>False) hb) (λq=>q),h.d.fr (Aj (P:=λ_=>False) hb) (λq=>q)⟩
theorem TA (B:Bk)(x:Bu)(a1 a2 a3:OA)(c1 c2 c3:Nat)(u1 u2:OA)(d1 d2:Nat)(w:World)(hf:BS B)(hv:Bj (ID B) 7=true)(hu:MM x)(No:BL w 0 w.1.size B a1 a2 a3)(PU:IX w 0 w.1.size x u1 u2):Calls prog 81 #[.agg (vB B a1 a2 a3 c1 c2 c3),.agg (vU x u1 u2 d1 d2)] w λe w'=>jM B x w e w':=by
 by_cases h:10<x.wn\/10<x.rn;.exact Abe B x a1 a2 a3 c1 c2 c3 u1 u2 d1 d2 w No PU h
 .exact Agr B x a1 a2 a3 c1 c2 c3 u1 u2 d1 d2 w hf hv hu No PU Za Za
end Go.Proofs.YtdknjmgdgnmhjaaGreat
