import Derived.Test.YtllmmkchokkaaaaGreatDoorPk40
import Derived.Test.YtllmmkchokkaaaaGreatDoorPk41
set_option maxRecDepth 100000
namespace Go.Proofs.YtllmmkchokkaaaaGreatDoor
open Go.RowKit
/-! a write keeps what a write wants -/
theorem befB_tri {y o:Ob} (h:befB y o=false) (hk:¬(y.kind.toList=o.kind.toList∧y.name.toList=o.name.toList)):befB o y=true:=by
 unfold befB at h ⊢
 by_cases e:y.kind.toList=o.kind.toList
 ·rw [if_pos e] at h
  rw [if_pos e.symm]
  exact ltB_tri h (fun q=>hk ⟨e,by rw [q]⟩)
 ·rw [if_neg e] at h
  rw [if_neg (fun q=>e q.symm)]
  exact ltB_tri h (fun q=>e (by rw [q]))
theorem befB_key {y o z:Ob} (h1:y.kind.toList=o.kind.toList) (h2:y.name.toList=o.name.toList) (h:befB y z=true):befB o z=true:=by
 unfold befB ltB at h ⊢
 rw [←h1,←h2]
 exact h
def PwO (l:List Ob):Prop:=l.Pairwise fun a b=>befB a b=true
theorem asc_pw {n:Nat} {x:Nat→Ob} : ObAsc n x↔PwO (tkL n x):=by
 unfold PwO tkL
 rw [List.pairwise_iff_getElem]
 constructor
 ·intro h i j hi hj hij
  simp only [List.length_map,List.length_range] at hi hj
  simpa using h i j hij hj
 ·intro h i j hij hj
  have:=h i j Zc Zc hij
  simpa using this
theorem putG_mem (o:Ob):∀ (l:List Ob) (z:Ob),z ∈ putG o l→z=o∨z ∈ l
 | [],z,h=>Or.inl (by simpa [putG] using h)
 | y::r,z,h=>by
  unfold putG at h
  split at h
  ·rcases List.mem_cons.1 h with rfl|h
   ·exact Or.inr (List.mem_cons_self)
   ·rcases putG_mem o r z h with e|e
    ·exact Or.inl e
    ·exact Or.inr (List.mem_cons_of_mem _ e)
  ·rcases List.mem_cons.1 h with rfl|h
   ·exact Or.inl rfl
   ·exact Or.inr (List.mem_filter.1 h).1
theorem putG_pw (o:Ob):∀ l:List Ob,PwO l→PwO (putG o l)
 | [],_=>by simp [PwO,putG]
 | y::r,h=>by
  have hr:=List.pairwise_cons.1 h
  unfold putG
  split
  ·rename_i hy
   refine List.pairwise_cons.2 ⟨fun z hz=>?_,putG_pw o r hr.2⟩
   rcases putG_mem o r z hz with rfl|e
   ·exact hy
   ·exact hr.1 z e
  ·rename_i hy
   have hy':befB y o=false:=by simpa using hy
   refine List.pairwise_cons.2 ⟨fun z hz=>?_,List.Pairwise.filter _ h⟩
   obtain ⟨hz1,hz2⟩:=List.mem_filter.1 hz
   have hzk:¬(z.kind.toList=o.kind.toList∧z.name.toList=o.name.toList):=fun e=>by
    have:keyI z o=0:=(keyI_nil7 _ _).2 e
    unfold otherK at hz2
    simp [this] at hz2
   rcases List.mem_cons.1 hz1 with rfl|e
   ·exact befB_tri hy' hzk
   ·have h1:=hr.1 z e
    by_cases hk:y.kind.toList=o.kind.toList∧y.name.toList=o.name.toList
    ·exact befB_key hk.1 hk.2 h1
    ·exact befB_trans (befB_tri hy' hk) h1
theorem chgL_pw {o:Ob} {g:Bool} {l:List Ob} (h:PwO l):PwO (chgL o g l):=by
 unfold chgL
 split
 ·exact List.Pairwise.filter _ h
 ·exact putG_pw o l h
theorem putG_len (o:Ob):∀ l:List Ob,(∃ y,y ∈ l∧keyI y o=0)→(putG o l).length≤l.length
 | [],h=>by obtain ⟨y,hy,_⟩:=h;cases hy
 | y::r,h=>by
  unfold putG
  split
  ·rename_i hy
   have:∃ z,z ∈ r∧keyI z o=0:=by
    obtain ⟨z,hz,hk⟩:=h
    rcases List.mem_cons.1 hz with rfl|e
    ·have e:=(keyI_nil7 _ _).1 hk
     rw [befB_irr e.1 e.2] at hy
     cases hy
    ·exact ⟨z,e,hk⟩
   have:=putG_len o r this
   simp only [List.length_cons]
   omega
  ·have:((y::r).filter (otherK o)).length<(y::r).length:=by
    rw [List.length_filter_lt_length_iff_exists]
    obtain ⟨z,hz,hk⟩:=h
    exact ⟨z,hz,by simp [otherK,hk]⟩
   simp only [List.length_cons] at this ⊢
   omega
theorem hs_ins {n:Nat} {s:Nat→ByteArray} {a:ByteArray} (h:HsAsc n s) (hn:hasB n s a=false):HsAsc (n+1) (insS s (rkS s a n) a):=by
 obtain ⟨g1,g2,g3⟩:=rkS_is s a n
 have hne:∀ i,i<n→¬s i=a:=fun i hi e=>by
  rw [hasB_yes hi e] at hn
  cases hn
 intro i j hij hj
 unfold insS
 rcases Nat.lt_trichotomy i (rkS s a n) with h1|h1|h1
 ·rw [if_pos h1]
  rcases Nat.lt_trichotomy j (rkS s a n) with h2|h2|h2
  ·rw [if_pos h2]
   exact h i j hij Za
  ·rw [if_neg Za,if_pos h2]
   exact g2 i h1
  ·rw [if_neg Za,if_neg Za]
   exact h i (j-1) Za Za
 ·rw [if_neg Za,if_pos h1,if_neg Za,if_neg Za]
  have hk:rkS s a n<n:=Za
  have h3:=ltB_tri (g3 hk) (hne _ hk)
  rcases Nat.lt_or_ge (rkS s a n) (j-1) with h4|h4
  ·exact ltB_trans h3 (h _ _ h4 Za)
  ·rw [show j-1=rkS s a n by omega]
   exact h3
 ·rw [if_neg Za,if_neg Za,if_neg Za,if_neg Za]
  exact h (i-1) (j-1) Za Za
theorem hs_rem {n:Nat} {s:Nat→ByteArray} {k:Nat} (h:HsAsc n s):HsAsc (n-1) (remS s k):=by
 intro i j hij hj
 unfold remS
 by_cases h1:i<k
 ·rw [if_pos h1]
  by_cases h2:j<k
  ·rw [if_pos h2]
   exact h i j hij Za
  ·rw [if_neg h2]
   exact h i (j+1) Za Za
 ·rw [if_neg h1,if_neg Za]
  exact h (i+1) (j+1) Za Za
theorem code_zero {B:Bk} {v:Wr} (hc:wCode B v=0):oCode B v=0∧B.now<1000000:=by
 unfold wCode at hc
 split at hc
 ·rename_i h
  refine ⟨h,?_⟩
  split at hc
  ·cases hc
  ·omega
 ·rename_i h
  exact absurd hc h
theorem wOb_hold {B:Bk} {v:Wr} (hok:WOk B v) (hc:wCode B v=0):(wOb B v).hn≤5∧HsAsc (wOb B v).hn (wOb B v).hs:=by
 obtain ⟨h1,h2,_⟩:=wOf_is hok
 have h0:=(code_zero hc).1
 unfold oCode at h0
 split at h0
 ·cases h0
 split at h0
 ·cases h0
 split at h0
 ·cases h0
 unfold wOb opOb
 by_cases e1:v.op=1
 ·rw [if_pos e1]
  refine ⟨by dsimp only;split<;>omega,fun i j h3 h4=>?_⟩
  dsimp only at h4
  split at h4<;>omega
 ·rw [if_neg e1]
  rw [if_neg e1] at h0
  by_cases e2:v.op=2
  ·rw [if_pos e2]
   exact ⟨h1,h2⟩
  ·rw [if_neg e2]
   by_cases e3:v.op=3
   ·rw [if_pos e3]
    exact ⟨h1,h2⟩
   ·rw [if_neg e3]
    by_cases e4:v.op=4
    ·rw [if_pos e4]
     rw [if_pos e4] at h0
     split at h0
     ·cases h0
     ·rename_i hh
      split at h0
      ·cases h0
      ·refine ⟨by dsimp only;omega,hs_ins h2 (by simpa using hh)⟩
    ·rw [if_neg e4]
     exact ⟨by dsimp only;omega,hs_rem h2⟩
theorem tkL_wBk (B:Bk) (v:Wr):tkL (wBk B v).on (wBk B v).os=chgL (wOb B v) (wGone B v) (tkL B.on B.os):=putAll_list7 _ _ _ _
theorem wBk_on {B:Bk} {v:Wr} (hok:WOk B v) (hc:wCode B v=0):(wBk B v).on≤100:=by
 have hl:(wBk B v).on=(chgL (wOb B v) (wGone B v) (tkL B.on B.os)).length:=by rw [←tkL_wBk,tkL_len]
 have h100:=hok.on
 cases hf:fndIs B.os v.kind v.name B.on with
 | true=>
  rw [hl]
  unfold chgL
  split
  ·have:=List.length_filter_le (otherK (wOb B v)) (tkL B.on B.os)
   rw [tkL_len] at this
   omega
  ·obtain ⟨k1,k2⟩:=wOb_key (code_key hc)
   have:∃ y,y ∈ tkL B.on B.os∧keyI y (wOb B v)=0:=by
    unfold fndIs at hf
    cases hx:fnd B.os v.kind v.name B.on with
    | none=>rw [hx] at hf;cases hf
    | some i=>
     obtain ⟨q1,q2,q3⟩:=fnd_lt hx
     refine ⟨B.os i,by unfold tkL;exact List.mem_map.2 ⟨i,by simpa using q1,rfl⟩,(keyI_nil7 _ _).2 ?_⟩
     rw [k1,k2,q2,q3]
     exact ⟨rfl,rfl⟩
   have:=putG_len (wOb B v) _ this
   rw [tkL_len] at this
   omega
 | false=>
  have h1:v.op=1:=by
   rcases code_key hc with h|h
   ·rw [h] at hf;cases hf
   ·exact h
  have h0:=(code_zero hc).1
  unfold oCode at h0
  split at h0
  ·cases h0
  split at h0
  ·cases h0
  split at h0
  ·cases h0
  split at h0
  ·cases h0
  ·have:=putAll_le B.on B.os (wOb B v) (wGone B v)
   have e:(wBk B v).on=(putAll B.on B.os (wOb B v) (wGone B v)).m:=rfl
   omega
theorem WOk.next {B:Bk} {v v':Wr} (hok:WOk B v) (hc:wCode B v=0) (hw:wrB v'=true) (wf:WrFit v'):WOk (wBk B v) v':=by
 have h0:=hok.now0
 have h1:=(code_zero hc).2
 refine ⟨(wBk_fit hok).1,?_,?_,wBk_on hok hc,?_,?_,fun i _=>?_,hw,wf⟩
 ·show 0≤B.now+1
  omega
 ·show B.now+1≤1000000
  omega
 ·show B.hn-wCut B+1≤200
  have:=hok.hn
  unfold wCut
  split<;>omega
 ·rw [asc_pw,tkL_wBk]
  exact chgL_pw (asc_pw.1 hok.asc)
 ·exact putAll_all (P:=fun o=>o.hn≤5∧HsAsc o.hn o.hs) (wOb_hold hok hc) hok.hold i
def runB (B:Bk) (x:Nat→Wr):Nat→Bk
 | 0=>B
 | k+1=>wBk (runB B x k) (x k)
def fstN (p:Nat→Bool):Nat→Nat
 | 0=>0
 | n+1=>if fstN p n<n then fstN p n else if p n then n+1 else n
theorem fstN_is (p:Nat→Bool):∀ n,fstN p n≤n∧(∀ j,j<fstN p n→p j=true)∧(fstN p n<n→p (fstN p n)=false)
 | 0=>⟨Nat.le_refl _,fun j hj=>absurd hj (Nat.not_lt_zero _),fun h=>absurd h (Nat.not_lt_zero _)⟩
 | n+1=>by
  obtain ⟨h1,h2,h3⟩:=fstN_is p n
  unfold fstN
  split
  ·rename_i h
   exact ⟨Za,h2,fun _=>h3 h⟩
  ·rename_i h
   have e:fstN p n=n:=Za
   rw [e] at h2
   split
   ·rename_i hp
    refine ⟨Nat.le_refl _,fun j hj=>?_,fun q=>absurd q (Nat.lt_irrefl _)⟩
    rcases Nat.lt_or_ge j n with q|q
    ·exact h2 j q
    ·obtain rfl:j=n:=Za
     exact hp
   ·rename_i hp
    exact ⟨Za,h2,fun _=>by simpa using hp⟩
theorem fstN_no {p:Nat→Bool} {n k:Nat} (hk:k<n) (h:∀ j,j<k→p j=true) (hp:p k=false):fstN p n=k:=by
 obtain ⟨h1,h2,h3⟩:=fstN_is p n
 rcases Nat.lt_trichotomy (fstN p n) k with q|q|q
 ·have:=h3 Za
  rw [h _ q] at this
  cases this
 ·exact q
 ·have:=h2 k q
  rw [hp] at this
  cases this
theorem fstN_all {p:Nat→Bool} {n:Nat} (h:∀ j,j<n→p j=true):fstN p n=n:=by
 obtain ⟨h1,h2,h3⟩:=fstN_is p n
 rcases Nat.lt_or_ge (fstN p n) n with q|q
 ·have:=h3 q
  rw [h _ q] at this
  cases this
 ·omega
def wtB (x:Wnt):Bool:=nameB x.kind&&(nameB x.name&&decide (0≤x.ver))
def buB (x:Bu):Bool:=decide (x.wn≤10)&&(decide (x.rn≤10)&&(allTo (fun i=>wtB (x.ws i)) x.wn&&allTo (fun i=>wrB (x.rs i)) x.rn))
def wtOk (B:Bk) (x:Wnt):Bool:=decide ((fndOb B.os x.kind x.name B.on).ver=x.ver)
def wrOk (B:Bk) (x:Bu) (k:Nat):Bool:=decide (wCode (runB B x.rs k) (x.rs k)=0)
def wtF (B:Bk) (x:Bu):Nat:=fstN (fun i=>wtOk B (x.ws i)) x.wn
def wrF (B:Bk) (x:Bu):Nat:=fstN (wrOk B x) x.rn
def allC0 (B:Bk) (x:Bu):Int:=if wtF B x<x.wn then 9 else if wrF B x<x.rn then wCode (runB B x.rs (wrF B x)) (x.rs (wrF B x)) else 0
def allB0 (B:Bk) (x:Bu):Bk:=if wtF B x<x.wn∨wrF B x<x.rn then B else runB B x.rs x.rn
def allV0 (B:Bk) (x:Bu):Int:=if wtF B x<x.wn∨wrF B x<x.rn then 0 else (runB B x.rs x.rn).now
def allN0 (B:Bk) (x:Bu):Nat:=if wtF B x<x.wn then wtF B x else if wrF B x<x.rn then wrF B x else 0
def allC (B:Bk) (x:Bu):Int:=if allTo (chk B) 7 then (if buB x then allC0 B x else 2) else 1
def allB (B:Bk) (x:Bu):Bk:=if allTo (chk B) 7 then (if buB x then allB0 B x else B) else bk0
def allV (B:Bk) (x:Bu):Int:=if allTo (chk B) 7 then (if buB x then allV0 B x else 0) else 0
def allN (B:Bk) (x:Bu):Nat:=if allTo (chk B) 7 then (if buB x then allN0 B x else 0) else 0
structure BuOk (x:Bu):Prop where
 wn:x.wn≤10
 rn:x.rn≤10
 ws:∀ i,i<x.wn→wtB (x.ws i)=true
 rs:∀ i,i<x.rn→wrB (x.rs i)=true
theorem buOk_of {x:Bu} (h:buB x=true):BuOk x:=by
 unfold buB at h
 simp only [Bool.and_eq_true,decide_eq_true_eq,allTo_iff] at h
 exact ⟨h.1,h.2.1,h.2.2.1,h.2.2.2⟩
theorem run_ok {B:Bk} {x:Bu} (hf:BkFit B) (hv:allTo (chk B) 7=true) (hu:BuFit x) (hb:BuOk x):∀ k,k<x.rn→(∀ j,j<k→wrOk B x j=true)→WOk (runB B x.rs k) (x.rs k)
 | 0,h0,_=>wok_of hf hv (hb.rs 0 h0) (hu.rs 0 h0)
 | k+1,h0,h=>WOk.next (run_ok hf hv hu hb k Za (fun j hj=>h j Za)) (of_decide_eq_true (h k Za)) (hb.rs _ h0) (hu.rs _ h0)
theorem run_small {B:Bk} {x:Bu} (hf:BkFit B) (hv:allTo (chk B) 7=true) (hu:BuFit x) (hb:BuOk x) (hs:szBk B≤1048576):∀ k,k≤x.rn→(∀ j,j<k→wrOk B x j=true)→BkFit (runB B x.rs k)∧(runB B x.rs k).on≤100∧(runB B x.rs k).hn≤200∧(runB B x.rs k).tn=B.tn∧(∀ i,i<(runB B x.rs k).on→((runB B x.rs k).os i).hn≤1048576)∧(∀ i,i<(runB B x.rs k).hn→((runB B x.rs k).hs i).ob.hn≤1048576)
 | 0,_,_=>by
  obtain ⟨h1,h2⟩:=hn_of_sz hs
  have hv':=hv
  rw [allTo_iff] at hv'
  have c1:objs1B B.on B.os B.now=true:=hv' 1 Za
  have c3:histB B.now B.floor B.hn B.hs=true:=hv' 3 Za
  unfold objs1B at c1
  unfold histB at c3
  rw [Bool.and_eq_true] at c1 c3
  exact ⟨hf,of_decide_eq_true c1.1,of_decide_eq_true c3.1,rfl,h1,h2⟩
 | k+1,h0,h=>by
  obtain ⟨_,_,_,i4,i5,i6⟩:=run_small hf hv hu hb hs k Za (fun j hj=>h j Za)
  have hok:=run_ok hf hv hu hb k Za (fun j hj=>h j Za)
  have hc:wCode (runB B x.rs k) (x.rs k)=0:=of_decide_eq_true (h k Za)
  have ho:=wOb_hold hok hc
  refine ⟨(wBk_fit hok).1,wBk_on hok hc,?_,i4,fun i _=>putAll_all (P:=fun o=>o.hn≤1048576) (Nat.le_trans ho.1 Zb) i5 i,fun i _=>?_⟩
  ·show (runB B x.rs k).hn-wCut (runB B x.rs k)+1≤200
   have:=hok.hn
   unfold wCut
   split<;>omega
  ·show (wHs (runB B x.rs k) (wCh (runB B x.rs k) (x.rs k)) i).ob.hn≤_
   unfold wHs
   split
   ·exact i6 _ Za
   ·show (wOb (runB B x.rs k) (x.rs k)).hn≤_
    omega
theorem all_fit {B:Bk} {x:Bu} (hf:BkFit B) (hu:BuFit x) (hs:szBk B≤1048576):DidFit (allB B x):=by
 obtain ⟨l1,l2,l3⟩:=lim_of_sz hs
 have hB:DidFit B:=⟨hf,l1,l2,l3,by have:=mkBk_le 1 B;omega⟩
 unfold allB
 split
 ·rename_i hv
  split
  ·rename_i hb
   unfold allB0
   split
   ·exact hB
   ·rename_i hn
    have hall:∀ j,j<x.rn→wrOk B x j=true:=fun j hj=>(fstN_is (wrOk B x) x.rn).2.1 j (by have:¬wrF B x<x.rn:=fun q=>hn (Or.inr q);unfold wrF at this;omega)
    obtain ⟨i1,i2,i3,i4,i5,i6⟩:=run_small hf hv hu (buOk_of hb) hs x.rn Zbt hall
    generalize runB B x.rs x.rn=y at *
    have m1:=mkObs_cap 1 1048576 y.os y.on i5
    have m2:=mkChs_cap (mkObs 1 y.os y.on) 1048576 y.hs y.hn i6
    have m3:mkTis (mkChs (mkObs 1 y.os y.on) y.hs y.hn) y.ts y.tn=mkChs (mkObs 1 y.os y.on) y.hs y.hn+5*y.tn:=mkTis_is _ _ _
    have b1:y.on*(6+1048576)≤100*(6+1048576):=Nat.mul_le_mul_right _ i2
    have b2:y.hn*(8+1048576)≤200*(8+1048576):=Nat.mul_le_mul_right _ i3
    refine ⟨i1,Za,Za,Za,?_⟩
    unfold mkBk
    rw [m3]
    omega
  ·exact hB
 ·exact didFit0
end Go.Proofs.YtllmmkchokkaaaaGreatDoor
