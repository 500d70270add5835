import Derived.Test.YtllmmkchokkaaaaGreatDoorPk28
import Derived.Test.YtllmmkchokkaaaaGreatDoorPk29
import Derived.Test.YtllmmkchokkaaaaGreatDoorPk13
set_option maxRecDepth 100000
namespace Go.Proofs.YtllmmkchokkaaaaGreatDoor
open Go.RowKit Go.Maps Go.Proofs.Tryz
theorem Na{f:Nat->Nat}:∀{n i:Nat},i<n->f i<=AN f n
 |0,_,h=>absurd h (Al _)
 |n+1,i,h=>by
  simp only[AN];rcases As i n with h1|h1;.have:=Na (f:=f) h1;omega
  .obtain rfl:i=n:=Za;omega
theorem QN (k0 H:Nat)(x:Nat->Ob):∀n,(∀i,i<n->(x i).hn<=H)->Ci k0 x n<=k0+n*(6+H)
 |0,_=>by simp[Ci]
 |n+1,h=>by have ih:=QN k0 H x n (λi hi=>h i Za);have h1:=h n Za;have e:(n+1)*(6+H)=n*(6+H)+(6+H):=Nat.succ_mul _ _;simp only[Ci];omega
theorem QS (k0 H:Nat)(x:Nat->Ch):∀n,(∀i,i<n->(x i).ob.hn<=H)->Cy k0 x n<=k0+n*(8+H)
 |0,_=>by simp[Cy]
 |n+1,h=>by have ih:=QS k0 H x n (λi hi=>h i Za);have h1:=h n Za;have e:(n+1)*(8+H)=n*(8+H)+(8+H):=Nat.succ_mul _ _;simp only[Cy];omega
theorem Mt (k0:Nat)(x:Nat->Ti):∀n,C5 k0 x n=k0+5*n
 |0=>rfl
 |n+1=>by simp only[C5];rw[Mt k0 x n];omega
theorem aQ{B:Bk}(hs:Hn B<=1048576):(∀i,i<B.on->(B.os i).hn<=1048576)/\(∀i,i<B.hn->(B.hs i).ob.hn<=1048576):=by
 unfold Hn GR IJ JT at hs;refine⟨λi hi=>?_,λi hi=>?_⟩;.have h:=Na (f:=λi=>Jh (B.os i)) hi;simp only[Jh,Ig]at h hs;omega
 .have h:=Na (f:=λi=>J8 (B.hs i)) hi;simp only[J8,Jh,Ig]at h hs;omega
end Go.Proofs.YtllmmkchokkaaaaGreatDoor
