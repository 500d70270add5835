import Derived.Test.YtllmmkchokkaaaaGreatDoorPk46
import Derived.Test.YtllmmkchokkaaaaGreatDoorPk47
import Derived.Test.YtllmmkchokkaaaaGreatDoorPk15
set_option maxRecDepth 100000
namespace Go.Proofs.YtllmmkchokkaaaaGreatDoor
open Go.RowKit Go.Maps
theorem specDo_any (B:Bk) (v:Wr) (a1 a2 a3:Option Addr) (c1 c2 c3:Nat) (w:World) (hf:BkFit B) (hc:BkIn w 0 w.1.size B a1 a2 a3) (wf:WrFit v) (htn:(B.tn:Int)≤1048576) :
  Calls Tryz.prog 8 #[.agg #[.int .i64 B.now,.int .i64 B.floor,.slice a1 B.on c1,.slice a2 B.hn c2,.slice a3 B.tn c3],.agg #[.int .i64 v.op,.string v.kind,.string v.name,.int .i64 v.seen,.string v.text,.string v.hold]] w fun e w'=>DoS B v w e w':=by
 cases hv:allTo (chk B) 7 with
 | false=>exact specDo_bad B v a1 a2 a3 c1 c2 c3 w hf hc wf hv
 | true=>
  cases hw:wrB v with
  | false=>exact specDo_miss B v a1 a2 a3 c1 c2 c3 w hf hc wf hv hw
  | true=>exact specDo_go B v a1 a2 a3 c1 c2 c3 w hf hc wf hv hw htn
theorem implDo_any (B:Bk) (v:Wr) (a1 a2 a3:Option Addr) (c1 c2 c3:Nat) (w:World) (lo hi:Nat) (hhi:hi≤w.1.size) (hf:BkFit B) (hc:BkIn w lo hi B a1 a2 a3) (wf:WrFit v) (hg:w.cell? ⟨0,0,none⟩=some (.iface 233 (.agg #[.pointer (some ⟨5,86,none⟩)]))) (hw0:0<w.1.size) :
  Calls Tryz.prog 11 #[.agg #[.int .i64 B.now,.int .i64 B.floor,.slice a1 B.on c1,.slice a2 B.hn c2,.slice a3 B.tn c3],.agg #[.int .i64 v.op,.string v.kind,.string v.name,.int .i64 v.seen,.string v.text,.string v.hold]] w fun e w'=>DoI B v w e w':=by
 cases hv:allTo (chk B) 7 with
 | false=>exact implDo_bad B v a1 a2 a3 c1 c2 c3 w lo hi hhi hf hc wf hv
 | true=>
  cases hw:wrB v with
  | false=>exact implDo_miss B v a1 a2 a3 c1 c2 c3 w lo hi hhi hf hc wf hv hw
  | true=>exact implDo_go B v a1 a2 a3 c1 c2 c3 w lo hi hhi hf hc wf hg hw0 hv hw
theorem sumTo_one {f:Nat→Nat} : ∀ {n i:Nat},i<n→f i≤sumTo f n
 | 0,_,h=>absurd h (Nat.not_lt_zero _)
 | n+1,i,h=>by
  simp only [sumTo]
  rcases Nat.lt_or_ge i n with h1|h1
  ·have:=sumTo_one (f:=f) h1
   omega
  ·obtain rfl:i=n:=by omega
   omega
theorem mkObs_cap (k0 H:Nat) (x:Nat→Ob):∀ n,(∀ i,i<n→(x i).hn≤H)→mkObs k0 x n≤k0+n*(6+H)
 | 0,_=>by simp [mkObs]
 | n+1,h=>by
  have ih:=mkObs_cap k0 H x n (fun i hi=>h i (by omega))
  have h1:=h n (by omega)
  have e:(n+1)*(6+H)=n*(6+H)+(6+H):=Nat.succ_mul _ _
  simp only [mkObs]
  omega
theorem mkChs_cap (k0 H:Nat) (x:Nat→Ch):∀ n,(∀ i,i<n→(x i).ob.hn≤H)→mkChs k0 x n≤k0+n*(8+H)
 | 0,_=>by simp [mkChs]
 | n+1,h=>by
  have ih:=mkChs_cap k0 H x n (fun i hi=>h i (by omega))
  have h1:=h n (by omega)
  have e:(n+1)*(8+H)=n*(8+H)+(8+H):=Nat.succ_mul _ _
  simp only [mkChs]
  omega
theorem mkTis_is (k0:Nat) (x:Nat→Ti):∀ n,mkTis k0 x n=k0+5*n
 | 0=>rfl
 | n+1=>by simp only [mkTis];rw [mkTis_is k0 x n];omega
theorem hn_of_sz {B:Bk} (hs:szBk B≤1048576):(∀ i,i<B.on→(B.os i).hn≤1048576)∧(∀ i,i<B.hn→(B.hs i).ob.hn≤1048576):=by
 unfold szBk szObs szChs szTis at hs
 refine ⟨fun i hi=>?_,fun i hi=>?_⟩
 ·have h:=sumTo_one (f:=fun i=>szOb (B.os i)) hi
  simp only [szOb,szStrs] at h hs
  omega
 ·have h:=sumTo_one (f:=fun i=>szCh (B.hs i)) hi
  simp only [szCh,szOb,szStrs] at h hs
  omega
theorem wOb_hn {B:Bk} {v:Wr} (hok:WOk B v):(wOb B v).hn≤6:=by
 have hl:=(wOf_is hok).1
 unfold wOb opOb
 repeat (first|(dsimp only;omega)|split)
theorem did_marks {B:Bk} {v:Wr} (hok:WOk B v) (hv:allTo (chk B) 7=true) (hs:szBk B≤1048576):(mkBk 1 (didB B v):Int)≤1073741824:=by
 rw [(did_go hv hok.wr).2.2]
 obtain ⟨h1,h2⟩:=hn_of_sz hs
 have h3:=wOb_hn hok
 have htn:B.tn≤1048576:=by unfold szBk szTis at hs;omega
 split
 ·have a1:=putAll_le B.on B.os (wOb B v) (wGone B v)
  have a2:=hok.on
  have a3:=hok.hn
  have e1:(wBk B v).on≤101:=by show (putAll B.on B.os (wOb B v) (wGone B v)).m≤101;omega
  have e2:(wBk B v).hn≤201:=by show B.hn-wCut B+1≤201;omega
  have m1:=mkObs_cap 1 1048576 (wBk B v).os (wBk B v).on (fun i _=>putAll_all (P:=fun o=>o.hn≤1048576) (by omega) h1 i)
  have m2:=mkChs_cap (mkObs 1 (wBk B v).os (wBk B v).on) 1048576 (wBk B v).hs (wBk B v).hn (fun i _=>by
   show (wHs B (wCh B v) i).ob.hn≤_
   unfold wHs
   split
   ·exact h2 _ (by omega)
   ·show (wOb B v).hn≤_
    omega)
  have m3:mkTis (mkChs (mkObs 1 (wBk B v).os (wBk B v).on) (wBk B v).hs (wBk B v).hn) (wBk B v).ts (wBk B v).tn=mkChs (mkObs 1 (wBk B v).os (wBk B v).on) (wBk B v).hs (wBk B v).hn+5*B.tn:=mkTis_is _ _ _
  have b1:(wBk B v).on*(6+1048576)≤101*(6+1048576):=Nat.mul_le_mul_right _ e1
  have b2:(wBk B v).hn*(8+1048576)≤201*(8+1048576):=Nat.mul_le_mul_right _ e2
  unfold mkBk
  rw [m3]
  omega
 ·have:=mkBk_le 1 B
  omega
end Go.Proofs.YtllmmkchokkaaaaGreatDoor
