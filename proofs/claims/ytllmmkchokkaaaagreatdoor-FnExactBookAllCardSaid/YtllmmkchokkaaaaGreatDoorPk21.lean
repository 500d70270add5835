import Derived.Test.YtllmmkchokkaaaaGreatDoorPk10
import Derived.Test.YtllmmkchokkaaaaGreatDoorPk15
import Derived.Shelf.Spec.SlicesGrow
import Derived.Laws.AppendOwnNone
set_option maxRecDepth 100000
set_option maxHeartbeats 4000000
namespace Go.Proofs.YtllmmkchokkaaaaGreatDoor
open Go.RowKit
def updT (t:Nat→Value) (i:Nat) (v:Value):Nat→Value:=fun j=>bif j==i then v else t j
theorem updT_ne {t:Nat→Value} {i j:Nat} {v:Value} (h:¬j=i):updT t i v j=t j:=by
 have:(j==i)=false:=by simpa using h
 simp [updT,this]
theorem updT_same {t:Nat→Value} {i:Nat} {v:Value} : updT t i v i=v:=by simp [updT]
def Waits (ops:Array Oper) (i j:Nat):Prop:=∃ o,ops[i]? = some o∧∃ e ∈ o.after,Region.binds .any e=true∧e.on=j
theorem Wt {ops:Array Oper} {i j:Nat} (h:(match ops[i]? with|some o=>o.after.toList.any (fun e=>Region.binds .any e&&e.on==j)|none=>false)=true):Waits ops i j:=by
 cases ho:ops[i]? with
 | none=>rw [ho] at h;cases h
 | some o=>
  rw [ho] at h
  obtain ⟨e,he,h2⟩:=List.any_eq_true.1 h
  simp only [Bool.and_eq_true,beq_iff_eq] at h2
  exact ⟨o,ho,e,by simpa using he,h2.1,h2.2⟩
theorem sg {P:Prop} (h:P:=by
  have h:=hK _ X rfl Zbv
  refine wpOp_of rfl rfl ?_
  clear hK hg
  go_simp
  first|simpa [updT,ea,eb,ec,ed,ee] using h|simpa [updT,ea,eb,ec,ed] using h|simpa [updT,ea,eb,ec] using h|simpa [updT,ea,eb] using h|simpa [updT,ea] using h|simpa [updT] using h):P:=h
def RG (n:Nat) (mk:(Nat→Value)→Array Value) (W:World) (G:Nat→Value→World→Prop) (Fin:Act→World→Prop) (l:Array Bool) (a:Act) (X:World):Prop:=
 l.size=n+1 ∧
  ((l.getD n false=true→(∀ i,i<n+1→l.getD i false=true)∧Fin a X)∧(l.getD n false=false→∃ t:Nat→Value,a=⟨mk t,[]⟩∧Below W.1.size W X∧∀ i,i<n→l.getD i false=true→G i (t i) X))
theorem apP210 {P:Prop} (h:P:=by
  rintro j ⟨o',ho',e,he,hb,rfl⟩
  rw [ho] at ho'
  obtain rfl:o=o':=by simpa using ho'
  exact hall e he hb):P:=h
theorem regionH {P:Program} {id:Nat} {ops:Array Oper} {Q:Exit→Act→World→Prop} {a0:Act} {W:World} (hm:P.follows .mixedOrders=true) (n:Nat)
  (mk:(Nat→Value)→Array Value) (t0:Nat→Value) (G:Nat→Value→World→Prop) (Fin:Act→World→Prop)
  (hn:ops.size=n+1) (hord:((List.range ops.size).all fun i=>match ops[i]? with|some o=>o.after.all (fun e=>decide (e.on<i))|none=>true)=true)
  (hlast:((List.range n).all fun j=>match ops[n]? with|some o=>o.after.any (fun e=>Region.binds .any e&&e.on==j)|none=>false)=true)
  (st:∀ i v X Y,i<n→G i v X→Below X.1.size X Y→G i v Y)
  (h0:a0=⟨mk t0,[]⟩)
  (sg:∀ i,i<n→∀ (t:Nat→Value) X K,Below W.1.size W X→(∀ j,Waits ops i j→G j (t j) X)→(∀ v Y,G i v Y→Below X.1.size X Y→K ⟨mk (updT t i v),[]⟩ Y)→wpOp P ops Q i K ⟨mk t,[]⟩ X)
  (sl:∀ (t:Nat→Value) X K,Below W.1.size W X→(∀ j,j<n→G j (t j) X)→(∀ a Y,Fin a Y→K a Y)→wpOp P ops Q n K ⟨mk t,[]⟩ X)
  (hfin:∀ a X,Fin a X→Q .normal a X):(Code.region id ops true).wp P Q a0 W:=by
 have hdep:∀ i j,i<n+1→Waits ops i j→j<n:=by
  rintro i j hi ⟨o,ho,e,he,_,rfl⟩
  have h1:=List.all_eq_true.1 hord i (List.mem_range.2 Za)
  rw [ho] at h1
  have h2:=Array.all_eq_true_iff_forall_mem.1 h1 e he
  have:=of_decide_eq_true h2
  omega
 refine wp_region_inv hm (RG n mk W G Fin) ?_ ?_ ?_ ?_
 ·have hz:∀ i,(Array.replicate ops.size false).getD i false=false:=fun i=>by simp [Array.getD]
  refine ⟨by simp [hn],fun h=>?_,fun _=>⟨t0,h0,(Below.refl _ _).drew,fun i _ h=>?_⟩⟩<;>(rw [hz] at h;cases h)
 ·rintro l a X ⟨hs,_⟩
  rw [hs,hn]
 ·rintro l a X ⟨hs,h6,_⟩ hr
  have AL:=all_listed hord (by rw [hs,hn]) hr
  exact hfin a X (h6 (AL n Za)).2
 ·rintro l a X i ⟨hs,h6,hg⟩ hr
  obtain ⟨hu,o,ho,hall⟩:=mem_ready.1 hr
  have di:∀ j,Waits ops i j→l.getD j false=true:=by
   exact apP210
  have hi7:i<n+1:=by
   rcases Nat.lt_or_ge i (n+1) with h|h
   ·exact h
   ·rw [Array.getElem?_eq_none Za] at ho
    cases ho
  have hui:l.getD i false=false:=by
   have:l.getD i true=false:=hu
   simpa [Array.getD,hs,hi7] using this
  have l6:l.getD n false=false:=by
   cases h:l.getD n false with
   | false=>rfl
   | true=>rw [(h6 h).1 i hi7] at hui;cases hui
  obtain ⟨t,rfl,hb,gg⟩:=hg l6
  have kp:∀ j,¬j=i→(l.setIfInBounds i true).getD j false=l.getD j false:=fun j hj=>by rw [getD_set Za,if_neg hj]
  have ki:(l.setIfInBounds i true).getD i false=true:=by rw [getD_set Za,if_pos rfl]
  have hs':(l.setIfInBounds i true).size=n+1:=by simp [hs]
  have ku:∀ j,l.getD j false=true→(l.setIfInBounds i true).getD j false=true:=fun j h=>by
   by_cases e:j=i
   ·subst e;exact ki
   ·rw [kp j e];exact h
  by_cases hin:i=n
  ·subst hin
   have al:∀ j,j<i→l.getD j false=true:=fun j hj=>by
    have h1:=List.all_eq_true.1 hlast j (List.mem_range.2 hj)
    rw [ho] at h1
    obtain ⟨k,hk,h2⟩:=Array.any_eq_true.1 h1
    simp only [Bool.and_eq_true,beq_iff_eq] at h2
    exact di j ⟨o,ho,o.after[k],Array.getElem_mem hk,h2.1,h2.2⟩
   clear hr hu ho h6 hg
   refine sl t X _ hb (fun j hj=>gg j hj (al j hj)) (fun a Y hY=>⟨hs',fun _=>⟨fun j hj=>?_,hY⟩,fun h=>?_⟩)
   ·by_cases e:j=i
    ·subst e;exact ki
    ·exact ku j (al j Za)
   ·rw [ki] at h;cases h
  ·clear hr hu ho h6 hg
   have hno:(l.setIfInBounds i true).getD n false=false:=by rw [kp n (fun e=>hin e.symm)];exact l6
   refine sg i Za t X _ hb (fun j hj=>gg j (hdep i j hi7 hj) (di j hj)) (fun v Y hv hY=>⟨hs',fun h=>?_,fun _=>⟨updT t i v,rfl,hb.trans (hY.mono hb.size),fun j j1 h=>?_⟩⟩)
   ·rw [hno] at h;cases h
   ·by_cases e:j=i
    ·subst e;rw [updT_same];exact hv
    ·rw [kp j e] at h;rw [updT_ne e];exact st _ _ _ _ j1 (gg j j1 h) hY
def RK (n:Nat) (ops:Array Oper) (mk:(Nat→Value)→Array Value) (W:World) (G:Nat→Value→World→Prop) (Fin1 Fin:Act→World→Prop) (l:Array Bool) (a:Act) (X:World):Prop:=
 l.size=n+2∧(∀ i j,Waits ops i j→l.getD i false=true→l.getD j false=true) ∧
  (l.getD (n+1) false=true→(∀ i,i<n+2→l.getD i false=true)∧Fin a X) ∧
  (l.getD (n+1) false=false→l.getD n false=true→(∀ i,i<n+1→l.getD i false=true)∧Fin1 a X) ∧
  (l.getD (n+1) false=false→l.getD n false=false→∃ t:Nat→Value,a=⟨mk t,[]⟩∧Below W.1.size W X∧∀ i,i<n→l.getD i false=true→G i (t i) X)
theorem anc_all {ops:Array Oper} {n:Nat} (hanc:((List.range n).all fun j=>(List.range (n+1)).any fun k=>match ops[k]? with|some o=>decide (j<k)&&o.after.any (fun e=>Region.binds .any e&&e.on==j)|none=>false)=true)
  {f:Nat→Prop} (hcl:∀ i j,Waits ops i j→f i→f j) (hn:∀ j,Waits ops n j→f j):∀ m j,n≤j+m→j<n→f j
 | 0,j,h,hj=>by omega
 | m+1,j,h,hj=>by
  have h1:=List.all_eq_true.1 hanc j (List.mem_range.2 hj)
  obtain ⟨k,hk,h2⟩:=List.any_eq_true.1 h1
  have hk':=List.mem_range.1 hk
  cases ho:ops[k]? with
  | none=>rw [ho] at h2;cases h2
  | some o=>
   rw [ho] at h2
   simp only [Bool.and_eq_true,decide_eq_true_eq] at h2
   obtain ⟨q,hq,h3⟩:=Array.any_eq_true.1 h2.2
   simp only [Bool.and_eq_true,beq_iff_eq] at h3
   have hw:Waits ops k j:=⟨o,ho,o.after[q],Array.getElem_mem hq,h3.1,h3.2⟩
   by_cases hkn:k=n
   ·subst hkn;exact hn j hw
   ·exact hcl k j hw (anc_all hanc hcl hn m k Za Za)
def RJ (n:Nat) (ops:Array Oper) (mk:(Nat→Value)→Array Value) (W:World) (G:Nat→Value→World→Prop) (Fin:Act→World→Prop) (l:Array Bool) (a:Act) (X:World):Prop:=
 l.size=n+1∧(∀ i j,Waits ops i j→l.getD i false=true→l.getD j false=true) ∧
  (l.getD n false=true→(∀ i,i<n+1→l.getD i false=true)∧Fin a X) ∧
  (l.getD n false=false→∃ t:Nat→Value,a=⟨mk t,[]⟩∧Below W.1.size W X∧∀ i,i<n→l.getD i false=true→G i (t i) X)
theorem regionJ {P:Program} {id:Nat} {ops:Array Oper} {Q:Exit→Act→World→Prop} {a0:Act} {W:World} (hm:P.follows .mixedOrders=true) (n:Nat)
  (mk:(Nat→Value)→Array Value) (t0:Nat→Value) (G:Nat→Value→World→Prop) (Fin:Act→World→Prop)
  (hn:ops.size=n+1) (hord:((List.range ops.size).all fun i=>match ops[i]? with|some o=>o.after.all (fun e=>decide (e.on<i))|none=>true)=true)
  (hanc:((List.range n).all fun j=>(List.range (n+1)).any fun k=>match ops[k]? with|some o=>decide (j<k)&&o.after.any (fun e=>Region.binds .any e&&e.on==j)|none=>false)=true)
  (st:∀ i v X Y,i<n→G i v X→Below X.1.size X Y→G i v Y)
  (h0:a0=⟨mk t0,[]⟩)
  (sg:∀ i,i<n→∀ (t:Nat→Value) X K,Below W.1.size W X→(∀ j,Waits ops i j→G j (t j) X)→(∀ v Y,G i v Y→Below X.1.size X Y→K ⟨mk (updT t i v),[]⟩ Y)→wpOp P ops Q i K ⟨mk t,[]⟩ X)
  (sl:∀ (t:Nat→Value) X K,Below W.1.size W X→(∀ j,j<n→G j (t j) X)→(∀ a Y,Fin a Y→K a Y)→wpOp P ops Q n K ⟨mk t,[]⟩ X)
  (hfin:∀ a X,Fin a X→Q .normal a X):(Code.region id ops true).wp P Q a0 W:=by
 have hdep:∀ i j,i<n+1→Waits ops i j→j<i:=by
  rintro i j hi ⟨o,ho,e,he,_,rfl⟩
  have h1:=List.all_eq_true.1 hord i (List.mem_range.2 Za)
  rw [ho] at h1
  exact of_decide_eq_true (Array.all_eq_true_iff_forall_mem.1 h1 e he)
 refine wp_region_inv hm (RJ n ops mk W G Fin) ?_ ?_ ?_ ?_
 ·have hz:∀ i,(Array.replicate ops.size false).getD i false=false:=fun i=>by simp [Array.getD]
  refine ⟨by simp [hn],fun i j _ h=>?_,fun h=>?_,fun _=>⟨t0,h0,(Below.refl _ _).drew,fun i _ h=>?_⟩⟩<;>(rw [hz] at h;cases h)
 ·rintro l a X ⟨hs,_⟩
  rw [hs,hn]
 ·rintro l a X ⟨hs,_,h6,_⟩ hr
  have AL:=all_listed hord (by rw [hs,hn]) hr
  exact hfin a X (h6 (AL n Za)).2
 ·rintro l a X i ⟨hs,hcl,h6,hg⟩ hr
  obtain ⟨hu,o,ho,hall⟩:=mem_ready.1 hr
  have di:∀ j,Waits ops i j→l.getD j false=true:=by
   exact apP210
  have hi7:i<n+1:=by
   rcases Nat.lt_or_ge i (n+1) with h|h
   ·exact h
   ·rw [Array.getElem?_eq_none Za] at ho
    cases ho
  have hui:l.getD i false=false:=by
   have:l.getD i true=false:=hu
   simpa [Array.getD,hs,hi7] using this
  have l6:l.getD n false=false:=by
   cases h:l.getD n false with
   | false=>rfl
   | true=>rw [(h6 h).1 i hi7] at hui;cases hui
  obtain ⟨t,rfl,hb,gg⟩:=hg l6
  have kp:∀ j,¬j=i→(l.setIfInBounds i true).getD j false=l.getD j false:=fun j hj=>by rw [getD_set Za,if_neg hj]
  have ki:(l.setIfInBounds i true).getD i false=true:=by rw [getD_set Za,if_pos rfl]
  have hs':(l.setIfInBounds i true).size=n+1:=by simp [hs]
  have ku:∀ j,l.getD j false=true→(l.setIfInBounds i true).getD j false=true:=fun j h=>by
   by_cases e:j=i
   ·subst e;exact ki
   ·rw [kp j e];exact h
  have hcl':∀ p j,Waits ops p j→(l.setIfInBounds i true).getD p false=true→(l.setIfInBounds i true).getD j false=true:=fun p j hj h=>by
   by_cases e:p=i
   ·subst e;exact ku j (di j hj)
   ·rw [kp p e] at h;exact ku j (hcl p j hj h)
  by_cases hin:i=n
  ·subst hin
   have al:=fun j hj=>anc_all (f:=fun j=>l.getD j false=true) hanc hcl di i j Za hj
   clear hr hu ho h6 hg
   refine sl t X _ hb (fun j hj=>gg j hj (al j hj)) (fun a Y hY=>⟨hs',hcl',fun _=>⟨fun j hj=>?_,hY⟩,fun h=>?_⟩)
   ·by_cases e:j=i
    ·subst e;exact ki
    ·exact ku j (al j Za)
   ·rw [ki] at h;cases h
  ·clear hr hu ho h6 hg
   have hno:(l.setIfInBounds i true).getD n false=false:=by rw [kp n (fun e=>hin e.symm)];exact l6
   refine sg i Za t X _ hb (fun j hj=>gg j (by have:=hdep i j hi7 hj;omega) (di j hj)) (fun v Y hv hY=>⟨hs',hcl',fun h=>?_,fun _=>⟨updT t i v,rfl,hb.trans (hY.mono hb.size),fun j j1 h=>?_⟩⟩)
   ·rw [hno] at h;cases h
   ·by_cases e:j=i
    ·subst e;rw [updT_same];exact hv
    ·rw [kp j e] at h;rw [updT_ne e];exact st _ _ _ _ j1 (gg j j1 h) hY
end Go.Proofs.YtllmmkchokkaaaaGreatDoor
namespace Go.Proofs.YtllmmkchokkaaaaGreatDoor
open Go.RowKit
theorem all_listedB {ops:Array Oper} {l:Array Bool} (hord:((List.range ops.size).all fun i=>match ops[i]? with|some o=>o.after.all (fun e=>!(Region.binds .any e)||decide (e.on<i))|none=>true)=true) (hs:l.size=ops.size) (hr:Region.ready .any ops l=[]):∀ i,i<ops.size→l.getD i false=true:=by
 have conv:∀ i,i<ops.size→l.getD i true=l.getD i false:=fun i hi=>by simp [Array.getD,hs,hi]
 intro i
 induction i using Nat.strongRecOn with
 | _ i ih=>
  intro hi
  cases hg:l.getD i false with
  | true=>rfl
  | false=>
   have hm:i ∈ Region.ready .any ops l:=by
    rw [mem_ready]
    refine ⟨(conv i hi).trans hg,ops[i],by simp [hi],fun e he hbd=>?_⟩
    have h1:=List.all_eq_true.1 hord i (by simpa using hi)
    simp only [Array.getElem?_eq_getElem hi] at h1
    have h2:=(Array.all_eq_true_iff_forall_mem.1 h1) e he
    rw [hbd] at h2
    have h3:e.on<i:=by simpa using h2
    exact ih e.on h3 Za
   rw [hr] at hm
   cases hm
theorem regionIC {P:Program} {id:Nat} {ops:Array Oper} {Q:Exit→Act→World→Prop} {a0:Act} {W:World} (hm:P.follows .mixedOrders=true) (n:Nat)
  (mk:(Nat→Value)→Array Value) (t0:Nat→Value) (I:(Nat→Bool)→(Nat→Value)→World→Prop)
  (hn:ops.size=n) (hord:((List.range ops.size).all fun i=>match ops[i]? with|some o=>o.after.all (fun e=>!(Region.binds .any e)||decide (e.on<i))|none=>true)=true)
  (h0:a0=⟨mk t0,[]⟩) (hI:∀ f:Nat→Bool,(∀ i,f i=false)→I f t0 W.drew)
  (sg:∀ i,i<n→∀ (f:Nat→Bool) (t:Nat→Value) X K,I f t X→f i=false→(∀ j,Waits ops i j→f j=true)→(∀ p j,Waits ops p j→f p=true→f j=true)→(∀ v Y,(∀ g:Nat→Bool,g i=true→(∀ j,¬j=i→g j=f j)→I g (updT t i v) Y)→K ⟨mk (updT t i v),[]⟩ Y)→wpOp P ops Q i K ⟨mk t,[]⟩ X)
  (hfin:∀ (f:Nat→Bool) t X,(∀ i,i<n→f i=true)→I f t X→Q .normal ⟨mk t,[]⟩ X):(Code.region id ops true).wp P Q a0 W:=by
 refine wp_region_inv hm (fun l a X=>l.size=n∧(∀ p j,Waits ops p j→l.getD p false=true→l.getD j false=true)∧∃ t,a=⟨mk t,[]⟩∧I (fun i=>l.getD i false) t X) ?_ ?_ ?_ ?_
 ·have hz:∀ i,(Array.replicate ops.size false).getD i false=false:=fun i=>by simp [Array.getD]
  exact ⟨by simp [hn],fun p j _ h=>(by rw [hz] at h;cases h),t0,h0,hI _ hz⟩
 ·rintro l a X ⟨hs,_⟩
  rw [hs,hn]
 ·rintro l a X ⟨hs,_,t,rfl,h⟩ hr
  exact hfin _ t X (fun i hi=>all_listedB hord (by rw [hs,hn]) hr i Za) h
 ·rintro l a X i ⟨hs,hcl,t,rfl,h⟩ hr
  obtain ⟨hu,o,ho,hall⟩:=mem_ready.1 hr
  have di:∀ j,Waits ops i j→l.getD j false=true:=by
   exact apP210
  have hi7:i<n:=by
   rcases Nat.lt_or_ge i n with h|h
   ·exact h
   ·rw [Array.getElem?_eq_none Za] at ho
    cases ho
  have hui:l.getD i false=false:=by
   have:l.getD i true=false:=hu
   simpa [Array.getD,hs,hi7] using this
  have ki:(l.setIfInBounds i true).getD i false=true:=by rw [getD_set Za,if_pos rfl]
  have kp:∀ j,¬j=i→(l.setIfInBounds i true).getD j false=l.getD j false:=fun j hj=>by rw [getD_set Za,if_neg hj]
  have ku:∀ j,l.getD j false=true→(l.setIfInBounds i true).getD j false=true:=fun j h=>by
   by_cases e:j=i
   ·subst e;exact ki
   ·rw [kp j e];exact h
  refine sg i hi7 _ t X _ h hui di hcl (fun v Y hY=>⟨by simp [hs],fun p j hj h=>?_,updT t i v,rfl,hY _ ki kp⟩)
  by_cases e:p=i
  ·subst e;exact ku j (di j hj)
  ·rw [kp p e] at h;exact ku j (hcl p j hj h)
theorem regionI {P:Program} {id:Nat} {ops:Array Oper} {Q:Exit→Act→World→Prop} {a0:Act} {W:World} (hm:P.follows .mixedOrders=true) (n:Nat)
  (mk:(Nat→Value)→Array Value) (t0:Nat→Value) (I:(Nat→Bool)→(Nat→Value)→World→Prop)
  (hn:ops.size=n) (hord:((List.range ops.size).all fun i=>match ops[i]? with|some o=>o.after.all (fun e=>!(Region.binds .any e)||decide (e.on<i))|none=>true)=true)
  (h0:a0=⟨mk t0,[]⟩) (hI:∀ f:Nat→Bool,(∀ i,f i=false)→I f t0 W.drew)
  (sg:∀ i,i<n→∀ (f:Nat→Bool) (t:Nat→Value) X K,I f t X→f i=false→(∀ j,Waits ops i j→f j=true)→(∀ v Y,(∀ g:Nat→Bool,g i=true→(∀ j,¬j=i→g j=f j)→I g (updT t i v) Y)→K ⟨mk (updT t i v),[]⟩ Y)→wpOp P ops Q i K ⟨mk t,[]⟩ X)
  (hfin:∀ (f:Nat→Bool) t X,(∀ i,i<n→f i=true)→I f t X→Q .normal ⟨mk t,[]⟩ X):(Code.region id ops true).wp P Q a0 W:=
 regionIC hm n mk t0 I hn hord h0 hI (fun i hi f t X K h1 h2 h3 _ h5=>sg i hi f t X K h1 h2 h3 h5) hfin
theorem regionV {P:Program} {id:Nat} {ops:Array Oper} {Q:Exit→Act→World→Prop} {a0:Act} {W:World} (hm:P.follows .mixedOrders=true) (n:Nat)
  (mk:(Nat→Value)→Array Value) (t0:Nat→Value) (G:Nat→Value→World→Prop)
  (hn:ops.size=n) (hord:((List.range ops.size).all fun i=>match ops[i]? with|some o=>o.after.all (fun e=>!(Region.binds .any e)||decide (e.on<i))|none=>true)=true)
  (st:∀ i v X Y,i<n→G i v X→Below X.1.size X Y→G i v Y)
  (h0:a0=⟨mk t0,[]⟩)
  (sg:∀ i,i<n→∀ (t:Nat→Value) X K,Below W.1.size W X→(∀ j,Waits ops i j→G j (t j) X)→(∀ v Y,G i v Y→Below X.1.size X Y→K ⟨mk (updT t i v),[]⟩ Y)→wpOp P ops Q i K ⟨mk t,[]⟩ X)
  (hfin:∀ t X,Below W.1.size W X→(∀ j,j<n→G j (t j) X)→Q .normal ⟨mk t,[]⟩ X):(Code.region id ops true).wp P Q a0 W:=by
 refine regionI hm n mk t0 (fun f t X=>Below W.1.size W X∧∀ i,i<n→f i=true→G i (t i) X) hn hord h0 ?_ ?_ ?_
 ·intro f hf
  exact ⟨(Below.refl _ _).drew,fun i _ h=>by rw [hf] at h;cases h⟩
 ·rintro i hi f t X K ⟨hb,hG⟩ hfi hw hK
  refine sg i hi t X K hb (fun j hj=>hG j ?_ (hw j hj)) (fun v Y hv hbY=>hK v Y (fun g hgi hgj=>⟨hb.trans (hbY.mono hb.size),fun j hj h=>?_⟩))
  ·obtain ⟨o,ho,e,he,hbd,rfl⟩:=hj
   have h1:=List.all_eq_true.1 hord i (by rw [hn];simpa using hi)
   simp only [ho] at h1
   have h2:=(Array.all_eq_true_iff_forall_mem.1 h1) e he
   rw [hbd] at h2
   have h3:e.on<i:=by simpa using h2
   omega
  ·by_cases e:j=i
   ·subst e
    rw [updT_same]
    exact hv
   ·rw [updT_ne e]
    rw [hgj j e] at h
    exact st j _ X Y hj (hG j hj h) hbY
 ·rintro f t X hf ⟨hb,hG⟩
  exact hfin t X hb (fun j hj=>hG j hj (hf j hj))
end Go.Proofs.YtllmmkchokkaaaaGreatDoor
namespace Go.Proofs.YtllmmkchokkaaaaGreatDoor
open Go.RowKit Go.Maps
theorem wpList_builtin_append {P:Program} {w w':World} {ops:Array Oper} {rest:List Oper} {o:Oper} {a:Act} {Q:Exit→Act→World→Prop} (hgd:o.guard=none) (s x:Operand) (t t':TypeId)
  (ho:o.op=.call { callee:=.builtin .append,args:=#[s,x],argTypes:=#[t,t'] }) (u u' v:Value) (hs:a.eval s=u) (hx:a.eval x=u') (hrun:(Builtin.append_ #[t,t'] o.type #[u,u']).run P w=.ok v w')
  (h:wpList P ops Q rest (a.put o.dst v) w'):wpList P ops Q (o::rest) a w:=by
 refine wpList_plain hgd fun K hK=>?_
 unfold Oper.wp
 simp [execOp,ho,resolve,invoke,builtin,hs,hx,hrun,Result.andThen]
 exact hK _ _ h
def flatN (f:Nat→List Value):Nat→List Value|0=>[]|k+1=>flatN f k ++ f k
structure SrcN (w:World) (z q:Nat) (A:Nat→Option Addr) (M C:Nat→Nat) (news:Nat→List Value):Prop where
 len:∀ j,j<q→(news j).length=M j*z
 one:∀ j,j<q→∀ u ∈ news j,u.oneCell'=true
 src:∀ j,j<q→(A j=none∧M j=0∧C j=0)∨∃ b off,A j=some ⟨b,off,none⟩∧b<w.1.size∧∀ t u,(news j)[t]? = some u→w.cell? ⟨b,off+t,none⟩=some u
theorem flat2 (f:Nat→List Value):flatN f 2=f 0 ++ f 1:=by simp [flatN]
theorem flat3 (f:Nat→List Value):flatN f 3=f 0 ++ f 1 ++ f 2:=by simp [flatN]
theorem sum2 (f:Nat→Nat):sumTo f 2=f 0+f 1:=by simp [sumTo]
theorem sum3 (f:Nat→Nat):sumTo f 3=f 0+f 1+f 2:=by simp [sumTo]
structure RowC (w:World) (z:Nat) (ad:Option Addr) (b off n cap:Nat) (cs:List Value):Prop where
 len:cs.length=n*z
 one:∀ u ∈ cs,u.oneCell'=true
 src:(ad=none∧n=0∧cap=0)∨(ad=some ⟨b,off,none⟩∧n≤cap∧b<w.1.size∧∀ t u,cs[t]? = some u→w.cell? ⟨b,off+t,none⟩=some u)
theorem RowC.grow {w w':World} {z:Nat} {ad:Option Addr} {b off n cap:Nat} {cs:List Value} (h:RowC w z ad b off n cap cs) (hb:Below w.1.size w w'):RowC w' z ad b off n cap cs:=
 ⟨h.len,h.one,by
  rcases h.src with h1|⟨h1,h2,h3,h4⟩
  ·exact Or.inl h1
  ·exact Or.inr ⟨h1,h2,Nat.lt_of_lt_of_le h3 hb.size,fun t u hu=>(hb.cell (p:=⟨b,off+t,none⟩) h3).trans (h4 t u hu)⟩⟩
def tlC (ad:Option Addr) (b off cap k z:Nat):Option Addr:=if cap=k then ad else some ⟨b,off+k*z,none⟩
theorem RowC.take {w:World} {z:Nat} {ad:Option Addr} {b off n cap:Nat} {cs:List Value} (h:RowC w z ad b off n cap cs) {k:Nat} (hk:k≤n) :
  (cs.take (k*z)).length=k*z∧(∀ u ∈ cs.take (k*z),u.oneCell'=true)∧((ad=none∧k=0∧cap=0)∨∃ b off,ad=some ⟨b,off,none⟩∧b<w.1.size∧∀ t u,(cs.take (k*z))[t]? = some u→w.cell? ⟨b,off+t,none⟩=some u):=by
 have hm:k*z≤n*z:=Nat.mul_le_mul_right z hk
 refine ⟨by rw [List.length_take,h.len,Nat.min_eq_left hm],fun u hu=>h.one u (List.mem_of_mem_take hu),?_⟩
 rcases h.src with ⟨h1,h2,h3⟩|⟨h1,h2,h3,h4⟩
 ·exact Or.inl ⟨h1,Za,h3⟩
 ·refine Or.inr ⟨b,off,h1,h3,fun t u hu=>h4 t u ?_⟩
  rw [List.getElem?_take] at hu
  split at hu
  ·exact hu
  ·cases hu
theorem RowC.drop {w:World} {z:Nat} {ad:Option Addr} {b off n cap:Nat} {cs:List Value} (h:RowC w z ad b off n cap cs) {k:Nat} (hk:k≤n) :
  (cs.drop (k*z)).length=(n-k)*z∧(∀ u ∈ cs.drop (k*z),u.oneCell'=true)∧((tlC ad b off cap k z=none∧n-k=0∧cap-k=0)∨∃ b' off',tlC ad b off cap k z=some ⟨b',off',none⟩∧b'<w.1.size∧∀ t u,(cs.drop (k*z))[t]? = some u→w.cell? ⟨b',off'+t,none⟩=some u):=by
 refine ⟨by rw [List.length_drop,h.len,Nat.sub_mul],fun u hu=>h.one u (List.mem_of_mem_drop hu),?_⟩
 rcases h.src with ⟨h1,h2,h3⟩|⟨h1,h2,h3,h4⟩
 ·exact Or.inl ⟨by rw [tlC,if_pos Za];exact h1,Za,Za⟩
 ·by_cases hck:cap=k
  ·refine Or.inr ⟨b,off,by rw [tlC,if_pos hck];exact h1,h3,fun t u hu=>?_⟩
   rw [List.drop_eq_nil_of_le (by rw [h.len];exact Nat.mul_le_mul_right z Za)] at hu
   cases hu
  ·refine Or.inr ⟨b,off+k*z,by rw [tlC,if_neg hck],h3,fun t u hu=>?_⟩
   rw [Nat.add_assoc]
   rw [List.getElem?_drop] at hu
   exact h4 _ u hu
theorem own_base {w:World} {base base' e z n:Nat} {v:Value} {xs:List Value} (h:w.ownsRow base e z v n xs) (hb:base'≤base):w.ownsRow base' e z v n xs:=
 ⟨h.1,by
  rcases h.2 with h1|⟨g,cap,cur,e1,e2,e3,e4⟩
  ·exact Or.inl h1
  ·exact Or.inr ⟨g,cap,cur,e1,Nat.le_trans hb e2,e3,e4⟩⟩
theorem own_grow {w w':World} {base e z n:Nat} {v:Value} {xs:List Value} (h:w.ownsRow base e z v n xs) (hb:Below w.1.size w w'):w'.ownsRow base e z v n xs:=
 ownsRow_fr h (FrP.of_below (P:=fun _=>False) hb) (fun _ _ h=>h)
end Go.Proofs.YtllmmkchokkaaaaGreatDoor
namespace Go.Proofs.YtllmmkchokkaaaaGreatDoor
open Go.RowKit Go.Maps
theorem growS_any (n:Nat) (w:World) (hn:(n:Int)≤1099511627776) :
  Calls Tryz.prog 202 #[.slice none 0 0,.int .i64 n] w fun e w'=>∃ v,e=.returned v∧w'.ownsRow w.1.size 9 1 v 0 []∧Below w.1.size w w':=by
 rcases Nat.eq_zero_or_pos n with h00|h0
 ·subst h00
  go_enter Tryz.func202,Tryz.ntmps202
  go_wp2
  go_ret
  exact ⟨_,rfl,⟨rfl,Or.inl ⟨rfl,rfl⟩⟩,Below.refl _ _⟩
 obtain ⟨i0,hi0,hz0,hz1,hz2⟩:=info_parts Tryz.info9
 have hrz:∀ ty,∃ G cur,n≤G∧G≤maxLen∧cur.size=G*1∧(Builtin.append_ #[108,3] ty #[.slice none 0 0,.int .i64 (n:Int)]).run Tryz.prog w=.ok (.slice (some ⟨w.1.size,0,none⟩) n G) (w.drew.alloc (.cells cur 9)):=fun ty=>by
  have h:=Lib.run_append_grow_zeros w 108 3 ty 9 i0 _ .i64 .i64 Tryz.underlying108 Tryz.underlying3 hi0 hz0 none 0 0 [] (run_firstCells_none w.drew i0.size 0 0 0) n h0 Za Za Za Zbd (growslice_fits Za Zbd)
  rw [Nat.zero_add] at h
  refine ⟨_,_,grownCap_ge w _ _ _,grownCap_le_maxLen w n 0 9 Zs,?_,h⟩
  have hG:=grownCap_ge w n 0 9
  simp only [Array.size_append,Builtin.zeroCells,Array.size_map,Array.size_range]
  simp [Value.cells]
  omega
 obtain ⟨G,cur,hG1,hG2,hcur,hap⟩:=hrz 108
 have h63:(G:Int)≤9223372036854775807:=by unfold maxLen at hG2;omega
 have HC:=hid hcur
 have HG:=hid hG2
 have HAP:=hid hap
 clear hap
 clear hcur hG2 hrz hi0 hz0 hz1 hz2
 go_enter Tryz.func202,Tryz.ntmps202
 go_wp2_with (at_builtin;go_must (refine wpList_builtin_append rfl _ _ 108 3 rfl _ _ _ rfl rfl HAP.out ?_))
 go_ret
 exact ⟨_,rfl,World.ownsRow_made (base:=w.1.size) (e:=9) (size:=1) w.drew cur G Zbt HG.out HC.out,((Below.refl _ _).drew).alloc Zbt _⟩
theorem concatS_any (q:Nat) (A:Nat→Option Addr) (M C:Nat→Nat) (news:Nat→List Value) (b:Nat) (w:World) (hb:b<w.1.size) (hq:(q:Int)≤1000) (hcell:∀ j,j<q→w.cell? ⟨b,j,none⟩=some (.slice (A j) (M j) (C j))) (hsrc:SrcN w 1 q A M C news) (hs1:(sumTo M q:Int)≤1099511627776) :
  Calls Tryz.prog 186 #[.slice (some ⟨b,0,none⟩) q q] w fun e w'=>∃ v,e=.returned v∧w'.ownsRow w.1.size 9 1 v (sumTo M q) (flatN news q)∧Below w.1.size w w':=by
 obtain ⟨i0,hi0,hz0,hz1,hz2⟩:=info_parts Tryz.info9
 have HC:=hid hcell
 have HS:=hid hsrc
 have hmo:∀ k,k≤q→sumTo M k≤sumTo M q:=fun k hk=>sumTo_mono M hk
 have HM:=hid hmo
 clear hcell hsrc hmo
 go_enter Tryz.func186,Tryz.ntmps186
 go_wp2
 go_loopw [3,5,11] (fun s _ i wr=>∃ k:Nat,k≤q∧i=.int .i64 k∧s=.int .i64 (sumTo M k:Nat)∧wr=w) (fun _ _ i _=>q-(intOf i).toNat)
 case atStart=>exact ⟨0,Nat.zero_le _,rfl,rfl,rfl⟩
 case round=>
  obtain ⟨k,hk,rfl,rfl,rfl⟩:=hrel
  by_cases hkq:k<q
  ·have c0:=HC.out k hkq
   have hm:=HM.out (k+1) hkq
   have hms:sumTo M (k+1)=sumTo M k+M k:=rfl
   rw [hms] at hm
   have hkz:(k:Int)<q:=Za
   clear hms
   go_wp2
   go_roundw
   case rel=>exact ⟨k+1,hkq,by go_num,congrArg (Value.int .i64) (by show (_:Int)=((sumTo M k+M k:Nat):Int);omega),trivial⟩
   case measure=>simp [intOf];omega
  ·obtain rfl:k=q:=Za
   have hs2:¬(sumTo M k:Int)<0:=Za
   go_wp2_with (go_at_call 202;go_must (refine (growS_any (sumTo M k) _ hs1).mono ?_;rintro e w1 ⟨v1,rfl,hown1,hb1⟩))
   have HO1:=hid hown1
   clear hown1
   obtain ⟨W0,hW0⟩:∃ W0,W0=wr:=⟨_,rfl⟩
   subst hW0
   go_loopw [6,8,27] (fun v _ i wr=>∃ j:Nat,j≤k∧i=.int .i64 j∧Hid (wr.ownsRow W0.1.size 9 1 v (sumTo M j) (flatN news j))∧Below W0.1.size W0 wr) (fun _ _ i _=>k-(intOf i).toNat)
   case atStart=>exact ⟨0,Nat.zero_le _,rfl,HO1.out,hb1⟩
   case round=>
    clear HO1 hb1 hkq
    obtain ⟨j,hj,rfl,HOW,hbr⟩:=hrel
    by_cases hjk:j<k
    ·have c0:=(hbr.cell (p:=⟨b,j,none⟩) hb).trans (HC.out j hjk)
     have hm:=HM.out (j+1) hjk
     have hms:sumTo M (j+1)=sumTo M j+M j:=rfl
     rw [hms] at hm
     have HMS:=hid hms
     have hjz:(j:Int)<k:=Za
     have hbw:b<wr.1.size:=Nat.lt_of_lt_of_le hb hbr.size
     clear hms
     rcases HS.out.src j hjk with ⟨hA,hM0,hC0⟩|⟨sb,off,hA,hsb,hcs⟩
     ·rw [hA,hM0,hC0] at c0
      have hnil:news j=[]:=List.length_eq_zero_iff.1 (by rw [HS.out.len j hjk,hM0,Nat.zero_mul])
      have HN:=hid hnil
      have HM0:=hid hM0
      clear hA hM0 hC0 hnil
      go_wp2_with (at_builtin;go_must (refine wpList_append_own_none rfl _ _ 108 rfl W0.1.size 9 i0 1 Tryz.underlying108 hi0 _ (sumTo M j) (flatN news j) rfl HOW.out rfl ?_))
      go_roundw
      case rel=>exact ⟨j+1,hjk,by go_num,(show Hid _ from by
       show wr.ownsRow W0.1.size 9 1 _ (sumTo M j+M j) (flatN news j ++ news j)
       rw [HN.out,HM0.out,List.append_nil]
       exact HOW.out),hbr⟩
      case measure=>simp [intOf];omega
     ·rw [hA] at c0
      have HNW:=hid (show ∀ t u,(news j)[t]? = some u→wr.cell? ((⟨sb,off,none⟩:Addr).add t)=some u from fun t u h=>by
       rw [Addr.add_lit]
       exact (hbr.cell (p:=⟨sb,off+t,none⟩) hsb).trans (hcs t u h))
      clear hcs hA
      go_wp2_with (at_builtin;go_must (refine wpList_append_own_at _ rfl _ _ 108 rfl W0.1.size 9 i0 _ 1 16 Tryz.underlying108 hi0 hz0 hz1 hz2 rfl Zb _ (sumTo M j) (flatN news j) rfl HOW.out ⟨sb,off,none⟩ (M j) (C j) (news j) rfl (HS.out.len j hjk) HNW.out (HS.out.one j hjk) Zs Za hbr.size ?_;intro v' w2 hown2 hgrow2 hnil2 hat2;clear hnil2 hat2))
      have B2:Below W0.1.size W0 w2:=hbr.trans ((FrP.of_grown hgrow2).below (fun q hq e=>by have:=(HOW.out.lt q e).1;omega) hbr.size)
      have HO2:Hid (w2.ownsRow W0.1.size 9 1 v' (sumTo M (j+1)) (flatN news (j+1))):=hown2
      clear hown2 hgrow2
      go_wp2
      go_roundw
      case rel=>exact ⟨j+1,hjk,by go_num,HO2,B2⟩
      case measure=>simp [intOf];omega
    ·obtain rfl:j=k:=Za
     go_wp2
     go_ret
     exact ⟨_,rfl,HOW.out,hbr⟩
def insSRegG (ad:Option Addr) (b off n cap k:Nat) (cs:List Value) (x:ByteArray) (W:World) (i:Nat) (v:Value) (X:World):Prop:=
 match i with
 | 0=>v=.slice ad n cap
 | 1=>v=.int .i64 k
 | 2=>v=.slice ad k cap
 | 3=>v=.string x
 | 4=>∃ b1,v=.slice (some ⟨b1,0,none⟩) 1 1∧b1<X.1.size∧Holds X b1 #[.string x]
 | 5=>v=.slice ad n cap
 | 6=>v=.int .i64 k
 | 7=>v=.slice (tlC ad b off cap k 1) (n-k) (cap-k)
 | 8=>∃ b3 b1,v=.slice (some ⟨b3,0,none⟩) 3 3∧b3<X.1.size∧b1<X.1.size∧Holds X b1 #[.string x]∧Holds X b3 #[.slice ad k cap,.slice (some ⟨b1,0,none⟩) 1 1,.slice (tlC ad b off cap k 1) (n-k) (cap-k)]
 | 9=>X.ownsRow W.1.size 9 1 v (n+1) (cs.take (k*1) ++ [.string x] ++ cs.drop (k*1))
 | _=>True
theorem insSReg (p3 p4 p5 p6:Value) (t0:Nat→Value) (ad:Option Addr) (b off n cap k:Nat) (cs:List Value) (x:ByteArray) (W:World) (hst:RowC W 1 ad b off n cap cs) (hk:k≤n) (hl:(n:Int)≤1099511627775) (Q:Exit→Act→World→Prop) (hQ:∀ (t:Nat→Value) (vv:Value) X,Below W.1.size W X→X.ownsRow W.1.size 9 1 vv (n+1) (cs.take (k*1) ++ [.string x] ++ cs.drop (k*1))→Q .normal ⟨#[.slice ad n cap,.int .i64 k,.string x,p3,p4,p5,vv,t 0,t 1,t 2,t 3,t 4,t 5,t 6,t 7,t 8,t 9],[]⟩ X) :
  Code.wp Tryz.prog (Code.region 1 #[⟨some 7,.move (.tmp 0),108, "l2_book_write.go:260",#[],none⟩,⟨some 8,.move (.tmp 1),3, "l2_book_write.go:260",#[],none⟩,⟨some 9,.slice 108 (.tmp 7) none (some (.tmp 8)) none,108, "l2_book_write.go:260",#[⟨0,.data⟩,⟨1,.data⟩],none⟩,⟨some 10,.move (.tmp 2),9, "l2_book_write.go:260",#[],none⟩,⟨some 11,.buildSlice 108 1 #[(0,.tmp 10)],108, "l2_book_write.go:260",#[⟨3,.data⟩],none⟩,⟨some 12,.move (.tmp 0),108, "l2_book_write.go:260",#[],none⟩,⟨some 13,.move (.tmp 1),3, "l2_book_write.go:260",#[],none⟩,⟨some 14,.slice 108 (.tmp 12) (some (.tmp 13)) none none,108, "l2_book_write.go:260",#[⟨5,.data⟩,⟨6,.data⟩],none⟩,⟨some 15,.buildSlice 253 3 #[(0,.tmp 9),(1,.tmp 11),(2,.tmp 14)],253, "l2_book_write.go:260",#[⟨2,.data⟩,⟨4,.data⟩,⟨7,.data⟩],none⟩,⟨some 16,.call ⟨.value (.func 186),#[.tmp 15],#[253]⟩,108, "l2_book_write.go:260",#[⟨8,.data⟩],none⟩,⟨some 6,.assign (.tmp 16),108, "l2_book_write.go:260",#[⟨9,.data⟩,⟨9,.chain⟩,⟨0,.phase⟩,⟨1,.phase⟩,⟨2,.phase⟩,⟨3,.phase⟩,⟨4,.phase⟩,⟨5,.phase⟩,⟨6,.phase⟩,⟨7,.phase⟩,⟨8,.phase⟩,⟨9,.phase⟩],none⟩] true) Q ⟨#[.slice ad n cap,.int .i64 k,.string x,p3,p4,p5,p6,t0 0,t0 1,t0 2,t0 3,t0 4,t0 5,t0 6,t0 7,t0 8,t0 9],[]⟩ W:=by
 refine regionH Zf 10 (fun t:Nat→Value=>#[.slice ad n cap,.int .i64 k,.string x,p3,p4,p5,p6,t 0,t 1,t 2,t 3,t 4,t 5,t 6,t 7,t 8,t 9]) t0 (insSRegG ad b off n cap k cs x W) (fun a X=>∃ (t:Nat→Value) (vv:Value),a=⟨#[.slice ad n cap,.int .i64 k,.string x,p3,p4,p5,vv,t 0,t 1,t 2,t 3,t 4,t 5,t 6,t 7,t 8,t 9],[]⟩∧Below W.1.size W X∧X.ownsRow W.1.size 9 1 vv (n+1) (cs.take (k*1) ++ [.string x] ++ cs.drop (k*1))) Zf Zf Zf ?_ rfl ?_ ?_ ?_
 ·intro i v X Y hi h hb
  rcases (show i=0∨i=1∨i=2∨i=3∨i=4∨i=5∨i=6∨i=7∨i=8∨i=9 by omega) with rfl|rfl|rfl|rfl|rfl|rfl|rfl|rfl|rfl|rfl
  ·exact h
  ·exact h
  ·exact h
  ·exact h
  ·obtain ⟨b1,e1,e2,e3⟩:=h
   exact ⟨b1,e1,Nat.lt_of_lt_of_le e2 hb.size,e3.below hb e2⟩
  ·exact h
  ·exact h
  ·exact h
  ·obtain ⟨b3,b1,e1,e2,e3,e4,e5⟩:=h
   exact ⟨b3,b1,e1,Nat.lt_of_lt_of_le e2 hb.size,Nat.lt_of_lt_of_le e3 hb.size,e4.below hb e3,e5.below hb e2⟩
  ·exact own_grow h hb
 ·intro i hi t X K hb hg hK
  rcases (show i=0∨i=1∨i=2∨i=3∨i=4∨i=5∨i=6∨i=7∨i=8∨i=9 by omega) with rfl|rfl|rfl|rfl|rfl|rfl|rfl|rfl|rfl|rfl
  ·exact sg
  ·exact sg
  ·have e0:t 0=.slice ad n cap:=hg 0 (Wt rfl)
   have e1:t 1=.int .i64 k:=hg 1 (Wt rfl)
   have h:=hK _ X rfl Zbv
   refine wpOp_of rfl rfl ?_
   clear hK hg
   rcases hst.src with ⟨rfl,rfl,rfl⟩|⟨rfl,hc,_,_⟩
   ·obtain rfl:k=0:=Za
    go_simp
    simpa [updT,e0,e1] using h
   ·have hkc:k≤cap:=Nat.le_trans hk hc
    go_simp
    simpa [updT,e0,e1] using h
  ·exact sg
  ·have e3:t 3=.string x:=hg 3 (Wt rfl)
   have h:=hK (.slice (some ⟨X.1.size,0,none⟩) 1 1) (X.alloc (.cells #[.string x] 9)) ⟨X.1.size,rfl,Zd,holds_new X _ 9⟩ Zbu
   refine wpOp_of rfl rfl ?_
   clear hK hg
   go_simp
   simpa [updT,e3] using h
  ·exact sg
  ·exact sg
  ·have e5:t 5=.slice ad n cap:=hg 5 (Wt rfl)
   have e6:t 6=.int .i64 k:=hg 6 (Wt rfl)
   have h:=hK _ X rfl Zbv
   refine wpOp_of rfl rfl ?_
   clear hK hg
   unfold tlC at h
   rcases hst.src with ⟨rfl,rfl,rfl⟩|⟨rfl,hc,_,_⟩
   ·obtain rfl:k=0:=Za
    go_simp
    simpa [updT,e5,e6] using h
   ·by_cases hck:cap=k
    ·subst hck
     rw [if_pos rfl,show n-cap=0 by omega,Nat.sub_self] at h
     go_simp
     simpa [updT,e5,e6] using h
    ·rw [if_neg hck] at h
     go_simp
     simpa [updT,e5,e6] using h
  ·have e2:t 2=.slice ad k cap:=hg 2 (Wt rfl)
   obtain ⟨b1,e4,z1,h1⟩:∃ b1,t 4=.slice (some ⟨b1,0,none⟩) 1 1∧b1<X.1.size∧Holds X b1 #[.string x]:=hg 4 (Wt rfl)
   have e7:t 7=.slice (tlC ad b off cap k 1) (n-k) (cap-k):=hg 7 (Wt rfl)
   have hB:=below_alloc X (.cells #[.slice ad k cap,.slice (some ⟨b1,0,none⟩) 1 1,.slice (tlC ad b off cap k 1) (n-k) (cap-k)] 108)
   have h:=hK (.slice (some ⟨X.1.size,0,none⟩) 3 3) _ ⟨X.1.size,b1,rfl,Zd,Nat.lt_of_lt_of_le z1 hB.size,h1.below hB z1,holds_new X _ 108⟩ hB
   refine wpOp_of rfl rfl ?_
   clear hK hg
   go_simp
   simpa [updT,e2,e4,e7] using h
  ·obtain ⟨b3,b1,e8,z3,z1,h1,h3⟩:∃ b3 b1,t 8=.slice (some ⟨b3,0,none⟩) 3 3∧b3<X.1.size∧b1<X.1.size∧Holds X b1 #[.string x]∧Holds X b3 #[.slice ad k cap,.slice (some ⟨b1,0,none⟩) 1 1,.slice (tlC ad b off cap k 1) (n-k) (cap-k)]:=hg 8 (Wt rfl)
   refine wpOp_of rfl rfl ?_
   have HK:=hid hK
   have HST:=hid (hst.grow ((hb)))
   have H1:=hid h1
   have H3:=hid h3
   clear hK hg h1 h3
   go_simp
   go_at_call 186
   refine (concatS_any 3 (fun j=>match j with|0=>ad|1=>some ⟨b1,0,none⟩|_=>tlC ad b off cap k 1) (fun j=>match j with|0=>k|1=>1|_=>n-k) (fun j=>match j with|0=>cap|1=>1|_=>cap-k) (fun j=>match j with|0=>cs.take (k*1)|1=>[.string x]|_=>cs.drop (k*1)) b3 X z3 Za (fun j hj=>?_) ⟨fun j hj=>?_,fun j hj=>?_,fun j hj=>?_⟩ (by rw [sum3];show ((k+1+(n-k):Nat):Int)≤1099511627776;omega)).mono ?_
   ·rcases (show j=0∨j=1∨j=2 by omega) with rfl|rfl|rfl
    ·exact H3.out 0
    ·exact H3.out 1
    ·exact H3.out 2
   ·rcases (show j=0∨j=1∨j=2 by omega) with rfl|rfl|rfl
    ·exact (HST.out.take hk).1
    ·rfl
    ·exact (HST.out.drop hk).1
   ·rcases (show j=0∨j=1∨j=2 by omega) with rfl|rfl|rfl
    ·exact (HST.out.take hk).2.1
    ·intro u hu
     simp at hu
     subst hu;rfl
    ·exact (HST.out.drop hk).2.1
   ·rcases (show j=0∨j=1∨j=2 by omega) with rfl|rfl|rfl
    ·exact (HST.out.take hk).2.2
    ·refine Or.inr ⟨b1,0,rfl,z1,fun t u hu=>?_⟩
     rw [Nat.zero_add,H1.out t,←hu]
     simp
    ·exact (HST.out.drop hk).2.2
   ·rintro r Y ⟨v,rfl,hown,hbY⟩
    have hs:k+1+(n-k)=n+1:=Za
    rw [sum3,flat3] at hown
    have hown2:Y.ownsRow X.1.size 9 1 v (n+1) (cs.take (k*1) ++ [.string x] ++ cs.drop (k*1)):=by
     rw [←hs]
     exact hown
    have h:=HK.out v Y (own_base hown2 hb.size) hbY
    simpa [updT,e8,e8] using h
 ·intro t X K hb hg hK
  have h:=hK ⟨#[.slice ad n cap,.int .i64 k,.string x,p3,p4,p5,t 9,t 0,t 1,t 2,t 3,t 4,t 5,t 6,t 7,t 8,t 9],[]⟩ X ⟨t,t 9,rfl,hb,hg 9 Za⟩
  refine wpOp_of rfl rfl ?_
  clear hK hg
  go_simp
  exact h
 ·rintro a X ⟨t,vv,rfl,hb,ho⟩
  exact hQ t vv X hb ho
theorem insS_any (ad:Option Addr) (b off n cap k:Nat) (cs:List Value) (x:ByteArray) (w:World) (hst:RowC w 1 ad b off n cap cs) (hk:k≤n) (hl:(n:Int)≤1099511627775) :
  Calls Tryz.prog 156 #[.slice ad n cap,.int .i64 k,.string x] w fun r w'=>∃ v,r=.returned v∧w'.ownsRow w.1.size 9 1 v (n+1) (cs.take (k*1) ++ [.string x] ++ cs.drop (k*1))∧Below w.1.size w w':=by
 have HST:=hid hst
 clear hst
 go_enter Tryz.func156,Tryz.ntmps156
 go_wp2_with fail
 refine insSReg _ _ _ _ (fun _=>undef) ad b off n cap k cs x _ (by exact HST.out) hk hl _ ?_
 intro t v X hbX hown
 have HO:=hid hown
 have hBX:=hid hbX
 clear hown hbX
 go_wp2
 go_ret
 exact ⟨_,rfl,HO.out,hBX.out⟩
def remSRegG (ad:Option Addr) (b off n cap k:Nat) (cs:List Value) (W:World) (i:Nat) (v:Value) (X:World):Prop:=
 match i with
 | 0=>v=.slice ad n cap
 | 1=>v=.int .i64 k
 | 2=>v=.slice ad k cap
 | 3=>v=.slice ad n cap
 | 4=>v=.int .i64 k
 | 5=>v=.int .i64 ((k:Int)+1)
 | 6=>v=.slice (tlC ad b off cap (k+1) 1) (n-(k+1)) (cap-(k+1))
 | 7=>∃ b3,v=.slice (some ⟨b3,0,none⟩) 2 2∧b3<X.1.size∧Holds X b3 #[.slice ad k cap,.slice (tlC ad b off cap (k+1) 1) (n-(k+1)) (cap-(k+1))]
 | 8=>X.ownsRow W.1.size 9 1 v (n-1) (cs.take (k*1) ++ cs.drop ((k+1)*1))
 | _=>True
theorem remSReg (p2 p3 p4:Value) (t0:Nat→Value) (ad:Option Addr) (b off n cap k:Nat) (cs:List Value) (W:World) (hst:RowC W 1 ad b off n cap cs) (hk:k<n) (hl:(n:Int)≤1099511627775) (Q:Exit→Act→World→Prop) (hQ:∀ (t:Nat→Value) (vv:Value) X,Below W.1.size W X→X.ownsRow W.1.size 9 1 vv (n-1) (cs.take (k*1) ++ cs.drop ((k+1)*1))→Q .normal ⟨#[.slice ad n cap,.int .i64 k,p2,p3,vv,t 0,t 1,t 2,t 3,t 4,t 5,t 6,t 7,t 8],[]⟩ X) :
  Code.wp Tryz.prog (Code.region 1 #[⟨some 5,.move (.tmp 0),108, "l2_book_write.go:264",#[],none⟩,⟨some 6,.move (.tmp 1),3, "l2_book_write.go:264",#[],none⟩,⟨some 7,.slice 108 (.tmp 5) none (some (.tmp 6)) none,108, "l2_book_write.go:264",#[⟨0,.data⟩,⟨1,.data⟩],none⟩,⟨some 8,.move (.tmp 0),108, "l2_book_write.go:264",#[],none⟩,⟨some 9,.move (.tmp 1),3, "l2_book_write.go:264",#[],none⟩,⟨some 10,.binOp .add 3 (.tmp 9) (.const (.int .i64 1)) 3,3, "l2_book_write.go:264",#[⟨4,.data⟩],none⟩,⟨some 11,.slice 108 (.tmp 8) (some (.tmp 10)) none none,108, "l2_book_write.go:264",#[⟨3,.data⟩,⟨5,.data⟩],none⟩,⟨some 12,.buildSlice 253 2 #[(0,.tmp 7),(1,.tmp 11)],253, "l2_book_write.go:264",#[⟨2,.data⟩,⟨6,.data⟩],none⟩,⟨some 13,.call ⟨.value (.func 186),#[.tmp 12],#[253]⟩,108, "l2_book_write.go:264",#[⟨7,.data⟩],none⟩,⟨some 4,.assign (.tmp 13),108, "l2_book_write.go:264",#[⟨8,.data⟩,⟨8,.chain⟩,⟨0,.phase⟩,⟨1,.phase⟩,⟨2,.phase⟩,⟨3,.phase⟩,⟨4,.phase⟩,⟨5,.phase⟩,⟨6,.phase⟩,⟨7,.phase⟩,⟨8,.phase⟩],none⟩] true) Q ⟨#[.slice ad n cap,.int .i64 k,p2,p3,p4,t0 0,t0 1,t0 2,t0 3,t0 4,t0 5,t0 6,t0 7,t0 8],[]⟩ W:=by
 refine regionH Zf 9 (fun t:Nat→Value=>#[.slice ad n cap,.int .i64 k,p2,p3,p4,t 0,t 1,t 2,t 3,t 4,t 5,t 6,t 7,t 8]) t0 (remSRegG ad b off n cap k cs W) (fun a X=>∃ (t:Nat→Value) (vv:Value),a=⟨#[.slice ad n cap,.int .i64 k,p2,p3,vv,t 0,t 1,t 2,t 3,t 4,t 5,t 6,t 7,t 8],[]⟩∧Below W.1.size W X∧X.ownsRow W.1.size 9 1 vv (n-1) (cs.take (k*1) ++ cs.drop ((k+1)*1))) Zf Zf Zf ?_ rfl ?_ ?_ ?_
 ·intro i v X Y hi h hb
  rcases (show i=0∨i=1∨i=2∨i=3∨i=4∨i=5∨i=6∨i=7∨i=8 by omega) with rfl|rfl|rfl|rfl|rfl|rfl|rfl|rfl|rfl
  ·exact h
  ·exact h
  ·exact h
  ·exact h
  ·exact h
  ·exact h
  ·exact h
  ·obtain ⟨b3,e1,e2,e3⟩:=h
   exact ⟨b3,e1,Nat.lt_of_lt_of_le e2 hb.size,e3.below hb e2⟩
  ·exact own_grow h hb
 ·intro i hi t X K hb hg hK
  rcases (show i=0∨i=1∨i=2∨i=3∨i=4∨i=5∨i=6∨i=7∨i=8 by omega) with rfl|rfl|rfl|rfl|rfl|rfl|rfl|rfl|rfl
  ·exact sg
  ·exact sg
  ·have e0:t 0=.slice ad n cap:=hg 0 (Wt rfl)
   have e1:t 1=.int .i64 k:=hg 1 (Wt rfl)
   have h:=hK _ X rfl Zbv
   refine wpOp_of rfl rfl ?_
   clear hK hg
   rcases hst.src with ⟨_,h0,_⟩|⟨rfl,hc,_,_⟩
   ·omega
   ·have hkc:k≤cap:=Za
    go_simp
    simpa [updT,e0,e1] using h
  ·exact sg
  ·exact sg
  ·have e4:t 4=.int .i64 k:=hg 4 (Wt rfl)
   have hk2:(k:Int)+1≤1099511627776:=Za
   have hw:IntKind.i64.wrap ((k:Int)+1)=(k:Int)+1:=IntWalk.i64_in _ ⟨Za,Za⟩
   have h:=hK _ X rfl Zbv
   refine wpOp_of rfl rfl ?_
   clear hK hg
   go_simp
   simpa [updT,e4,hw] using h
  ·have e3:t 3=.slice ad n cap:=hg 3 (Wt rfl)
   have e5:t 5=.int .i64 ((k:Int)+1):=hg 5 (Wt rfl)
   have h:=hK _ X rfl Zbv
   refine wpOp_of rfl rfl ?_
   clear hK hg
   unfold tlC at h
   rcases hst.src with ⟨_,h0,_⟩|⟨rfl,hc,_,_⟩
   ·omega
   ·have hk3:(k:Int)+1≤cap:=Za
    have hk4:((k:Int)+1).toNat=k+1:=Za
    have hk5:(0:Int)≤(k:Int)+1:=Za
    have hk6:(k:Int)+1≤(n:Int):=Za
    by_cases hck:cap=k+1
    ·subst hck
     rw [if_pos rfl,show n-(k+1)=0 by omega,Nat.sub_self] at h
     go_simp
     simpa [updT,e3,e5,hk4,hk5,hk6] using h
    ·rw [if_neg hck] at h
     go_simp
     simpa [updT,e3,e5,hk4,hk5,hk6] using h
  ·have e2:t 2=.slice ad k cap:=hg 2 (Wt rfl)
   have e6:t 6=.slice (tlC ad b off cap (k+1) 1) (n-(k+1)) (cap-(k+1)):=hg 6 (Wt rfl)
   have hB:=below_alloc X (.cells #[.slice ad k cap,.slice (tlC ad b off cap (k+1) 1) (n-(k+1)) (cap-(k+1))] 108)
   have h:=hK (.slice (some ⟨X.1.size,0,none⟩) 2 2) _ ⟨X.1.size,rfl,Zd,holds_new X _ 108⟩ hB
   refine wpOp_of rfl rfl ?_
   clear hK hg
   go_simp
   simpa [updT,e2,e6] using h
  ·obtain ⟨b3,e7,z3,h3⟩:∃ b3,t 7=.slice (some ⟨b3,0,none⟩) 2 2∧b3<X.1.size∧Holds X b3 #[.slice ad k cap,.slice (tlC ad b off cap (k+1) 1) (n-(k+1)) (cap-(k+1))]:=hg 7 (Wt rfl)
   refine wpOp_of rfl rfl ?_
   have HK:=hid hK
   have HST:=hid (hst.grow ((hb)))
   have H3:=hid h3
   clear hK hg h3
   go_simp
   go_at_call 186
   refine (concatS_any 2 (fun j=>match j with|0=>ad|_=>tlC ad b off cap (k+1) 1) (fun j=>match j with|0=>k|_=>n-(k+1)) (fun j=>match j with|0=>cap|_=>cap-(k+1)) (fun j=>match j with|0=>cs.take (k*1)|_=>cs.drop ((k+1)*1)) b3 X z3 Za (fun j hj=>?_) ⟨fun j hj=>?_,fun j hj=>?_,fun j hj=>?_⟩ (by rw [sum2];show ((k+(n-(k+1)):Nat):Int)≤1099511627776;omega)).mono ?_
   ·rcases (show j=0∨j=1 by omega) with rfl|rfl
    ·exact H3.out 0
    ·exact H3.out 1
   ·rcases (show j=0∨j=1 by omega) with rfl|rfl
    ·exact (HST.out.take (Nat.le_of_lt hk)).1
    ·exact (HST.out.drop (k:=k+1) hk).1
   ·rcases (show j=0∨j=1 by omega) with rfl|rfl
    ·exact (HST.out.take (Nat.le_of_lt hk)).2.1
    ·exact (HST.out.drop (k:=k+1) hk).2.1
   ·rcases (show j=0∨j=1 by omega) with rfl|rfl
    ·exact (HST.out.take (Nat.le_of_lt hk)).2.2
    ·exact (HST.out.drop (k:=k+1) hk).2.2
   ·rintro r Y ⟨v,rfl,hown,hbY⟩
    have hs:k+(n-(k+1))=n-1:=Za
    rw [sum2,flat2] at hown
    have hown2:Y.ownsRow X.1.size 9 1 v (n-1) (cs.take (k*1) ++ cs.drop ((k+1)*1)):=by
     rw [←hs]
     exact hown
    have h:=HK.out v Y (own_base hown2 hb.size) hbY
    simpa [updT,e7,e7] using h
 ·intro t X K hb hg hK
  have h:=hK ⟨#[.slice ad n cap,.int .i64 k,p2,p3,t 8,t 0,t 1,t 2,t 3,t 4,t 5,t 6,t 7,t 8],[]⟩ X ⟨t,t 8,rfl,hb,hg 8 Za⟩
  refine wpOp_of rfl rfl ?_
  clear hK hg
  go_simp
  exact h
 ·rintro a X ⟨t,vv,rfl,hb,ho⟩
  exact hQ t vv X hb ho
theorem remS_any (ad:Option Addr) (b off n cap k:Nat) (cs:List Value) (w:World) (hst:RowC w 1 ad b off n cap cs) (hk:k<n) (hl:(n:Int)≤1099511627775) :
  Calls Tryz.prog 158 #[.slice ad n cap,.int .i64 k] w fun r w'=>∃ v,r=.returned v∧w'.ownsRow w.1.size 9 1 v (n-1) (cs.take (k*1) ++ cs.drop ((k+1)*1))∧Below w.1.size w w':=by
 have HST:=hid hst
 clear hst
 go_enter Tryz.func158,Tryz.ntmps158
 go_wp2_with fail
 refine remSReg _ _ _ (fun _=>undef) ad b off n cap k cs _ (by exact HST.out) hk hl _ ?_
 intro t v X hbX hown
 have HO:=hid hown
 have hBX:=hid hbX
 clear hown hbX
 go_wp2
 go_ret
 exact ⟨_,rfl,HO.out,hBX.out⟩
end Go.Proofs.YtllmmkchokkaaaaGreatDoor
