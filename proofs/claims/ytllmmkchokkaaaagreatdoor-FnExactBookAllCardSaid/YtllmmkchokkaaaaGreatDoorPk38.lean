import Derived.Test.YtllmmkchokkaaaaGreatDoorPk36
import Derived.Test.YtllmmkchokkaaaaGreatDoorPk37
import Derived.Test.YtllmmkchokkaaaaGreatDoorPk15
set_option maxRecDepth 100000
namespace Go.Proofs.YtllmmkchokkaaaaGreatDoor
open Go.RowKit Go.Maps
theorem sumTo_one {f:Nat→Nat} : ∀ {n i:Nat},i<n→f i≤sumTo f n
 | 0,_,h=>absurd h (Nat.not_lt_zero _)
 | n+1,i,h=>by
  simp only [sumTo]
  rcases Nat.lt_or_ge i n with h1|h1
  ·have:=sumTo_one (f:=f) h1
   omega
  ·obtain rfl:i=n:=Za
   omega
theorem mkObs_cap (k0 H:Nat) (x:Nat→Ob):∀ n,(∀ i,i<n→(x i).hn≤H)→mkObs k0 x n≤k0+n*(6+H)
 | 0,_=>by simp [mkObs]
 | n+1,h=>by
  have ih:=mkObs_cap k0 H x n (fun i hi=>h i Za)
  have h1:=h n Za
  have e:(n+1)*(6+H)=n*(6+H)+(6+H):=Nat.succ_mul _ _
  simp only [mkObs]
  omega
theorem mkChs_cap (k0 H:Nat) (x:Nat→Ch):∀ n,(∀ i,i<n→(x i).ob.hn≤H)→mkChs k0 x n≤k0+n*(8+H)
 | 0,_=>by simp [mkChs]
 | n+1,h=>by
  have ih:=mkChs_cap k0 H x n (fun i hi=>h i Za)
  have h1:=h n Za
  have e:(n+1)*(8+H)=n*(8+H)+(8+H):=Nat.succ_mul _ _
  simp only [mkChs]
  omega
theorem mkTis_is (k0:Nat) (x:Nat→Ti):∀ n,mkTis k0 x n=k0+5*n
 | 0=>rfl
 | n+1=>by simp only [mkTis];rw [mkTis_is k0 x n];omega
theorem hn_of_sz {B:Bk} (hs:szBk B≤1048576):(∀ i,i<B.on→(B.os i).hn≤1048576)∧(∀ i,i<B.hn→(B.hs i).ob.hn≤1048576):=by
 unfold szBk szObs szChs szTis at hs
 refine ⟨fun i hi=>?_,fun i hi=>?_⟩
 ·have h:=sumTo_one (f:=fun i=>szOb (B.os i)) hi
  simp only [szOb,szStrs] at h hs
  omega
 ·have h:=sumTo_one (f:=fun i=>szCh (B.hs i)) hi
  simp only [szCh,szOb,szStrs] at h hs
  omega
end Go.Proofs.YtllmmkchokkaaaaGreatDoor
