import Derived.Test.YtllmmkchokkaaaaGreatDoorPk10
set_option maxRecDepth 100000
namespace Go.Proofs.YtllmmkchokkaaaaGreatDoor
open Go.RowKit
def updT (t:Nat→Value) (i:Nat) (v:Value):Nat→Value:=fun j=>bif j==i then v else t j
theorem updT_ne {t:Nat→Value} {i j:Nat} {v:Value} (h:¬j=i):updT t i v j=t j:=by
 have:(j==i)=false:=by simpa using h
 simp [updT,this]
theorem updT_same {t:Nat→Value} {i:Nat} {v:Value} : updT t i v i=v:=by simp [updT]
def Waits (ops:Array Oper) (i j:Nat):Prop:=∃ o,ops[i]? = some o∧∃ e ∈ o.after,Region.binds .any e=true∧e.on=j
theorem Wt {ops:Array Oper} {i j:Nat} (h:(match ops[i]? with|some o=>o.after.toList.any (fun e=>Region.binds .any e&&e.on==j)|none=>false)=true):Waits ops i j:=by
 cases ho:ops[i]? with
 | none=>rw [ho] at h;cases h
 | some o=>
  rw [ho] at h
  obtain ⟨e,he,h2⟩:=List.any_eq_true.1 h
  simp only [Bool.and_eq_true,beq_iff_eq] at h2
  exact ⟨o,ho,e,by simpa using he,h2.1,h2.2⟩
theorem sg {P:Prop} (h:P:=by
  have h:=hK _ X rfl (Below.refl _ _)
  refine wpOp_of rfl rfl ?_
  clear hK hg
  go_simp
  first|simpa [updT,ea,eb,ec,ed,ee] using h|simpa [updT,ea,eb,ec,ed] using h|simpa [updT,ea,eb,ec] using h|simpa [updT,ea,eb] using h|simpa [updT,ea] using h|simpa [updT] using h):P:=h
def RG (n:Nat) (mk:(Nat→Value)→Array Value) (W:World) (G:Nat→Value→World→Prop) (Fin:Act→World→Prop) (l:Array Bool) (a:Act) (X:World):Prop:=
 l.size=n+1 ∧
  ((l.getD n false=true→(∀ i,i<n+1→l.getD i false=true)∧Fin a X)∧(l.getD n false=false→∃ t:Nat→Value,a=⟨mk t,[]⟩∧Below W.1.size W X∧∀ i,i<n→l.getD i false=true→G i (t i) X))
theorem regionH {P:Program} {id:Nat} {ops:Array Oper} {Q:Exit→Act→World→Prop} {a0:Act} {W:World} (hm:P.follows .mixedOrders=true) (n:Nat)
  (mk:(Nat→Value)→Array Value) (t0:Nat→Value) (G:Nat→Value→World→Prop) (Fin:Act→World→Prop)
  (hn:ops.size=n+1) (hord:((List.range ops.size).all fun i=>match ops[i]? with|some o=>o.after.all (fun e=>decide (e.on<i))|none=>true)=true)
  (hlast:((List.range n).all fun j=>match ops[n]? with|some o=>o.after.any (fun e=>Region.binds .any e&&e.on==j)|none=>false)=true)
  (st:∀ i v X Y,i<n→G i v X→Below X.1.size X Y→G i v Y)
  (h0:a0=⟨mk t0,[]⟩)
  (sg:∀ i,i<n→∀ (t:Nat→Value) X K,Below W.1.size W X→(∀ j,Waits ops i j→G j (t j) X)→(∀ v Y,G i v Y→Below X.1.size X Y→K ⟨mk (updT t i v),[]⟩ Y)→wpOp P ops Q i K ⟨mk t,[]⟩ X)
  (sl:∀ (t:Nat→Value) X K,Below W.1.size W X→(∀ j,j<n→G j (t j) X)→(∀ a Y,Fin a Y→K a Y)→wpOp P ops Q n K ⟨mk t,[]⟩ X)
  (hfin:∀ a X,Fin a X→Q .normal a X):(Code.region id ops true).wp P Q a0 W:=by
 have hdep:∀ i j,i<n+1→Waits ops i j→j<n:=by
  rintro i j hi ⟨o,ho,e,he,_,rfl⟩
  have h1:=List.all_eq_true.1 hord i (List.mem_range.2 (by omega))
  rw [ho] at h1
  have h2:=Array.all_eq_true_iff_forall_mem.1 h1 e he
  have:=of_decide_eq_true h2
  omega
 refine wp_region_inv hm (RG n mk W G Fin) ?_ ?_ ?_ ?_
 ·have hz:∀ i,(Array.replicate ops.size false).getD i false=false:=fun i=>by simp [Array.getD]
  refine ⟨by simp [hn],fun h=>?_,fun _=>⟨t0,h0,(Below.refl _ _).drew,fun i _ h=>?_⟩⟩<;>(rw [hz] at h;cases h)
 ·rintro l a X ⟨hs,_⟩
  rw [hs,hn]
 ·rintro l a X ⟨hs,h6,_⟩ hr
  have AL:=all_listed hord (by rw [hs,hn]) hr
  exact hfin a X (h6 (AL n (by omega))).2
 ·rintro l a X i ⟨hs,h6,hg⟩ hr
  obtain ⟨hu,o,ho,hall⟩:=mem_ready.1 hr
  have di:∀ j,Waits ops i j→l.getD j false=true:=by
   rintro j ⟨o',ho',e,he,hb,rfl⟩
   rw [ho] at ho'
   obtain rfl:o=o':=by simpa using ho'
   exact hall e he hb
  have hi7:i<n+1:=by
   rcases Nat.lt_or_ge i (n+1) with h|h
   ·exact h
   ·rw [Array.getElem?_eq_none (by omega)] at ho
    cases ho
  have hui:l.getD i false=false:=by
   have:l.getD i true=false:=hu
   simpa [Array.getD,hs,hi7] using this
  have l6:l.getD n false=false:=by
   cases h:l.getD n false with
   | false=>rfl
   | true=>rw [(h6 h).1 i hi7] at hui;cases hui
  obtain ⟨t,rfl,hb,gg⟩:=hg l6
  have kp:∀ j,¬j=i→(l.setIfInBounds i true).getD j false=l.getD j false:=fun j hj=>by rw [getD_set (by omega),if_neg hj]
  have ki:(l.setIfInBounds i true).getD i false=true:=by rw [getD_set (by omega),if_pos rfl]
  have hs':(l.setIfInBounds i true).size=n+1:=by simp [hs]
  have ku:∀ j,l.getD j false=true→(l.setIfInBounds i true).getD j false=true:=fun j h=>by
   by_cases e:j=i
   ·subst e;exact ki
   ·rw [kp j e];exact h
  by_cases hin:i=n
  ·subst hin
   have al:∀ j,j<i→l.getD j false=true:=fun j hj=>by
    have h1:=List.all_eq_true.1 hlast j (List.mem_range.2 hj)
    rw [ho] at h1
    obtain ⟨k,hk,h2⟩:=Array.any_eq_true.1 h1
    simp only [Bool.and_eq_true,beq_iff_eq] at h2
    exact di j ⟨o,ho,o.after[k],Array.getElem_mem hk,h2.1,h2.2⟩
   clear hr hu ho h6 hg
   refine sl t X _ hb (fun j hj=>gg j hj (al j hj)) (fun a Y hY=>⟨hs',fun _=>⟨fun j hj=>?_,hY⟩,fun h=>?_⟩)
   ·by_cases e:j=i
    ·subst e;exact ki
    ·exact ku j (al j (by omega))
   ·rw [ki] at h;cases h
  ·clear hr hu ho h6 hg
   have hno:(l.setIfInBounds i true).getD n false=false:=by rw [kp n (fun e=>hin e.symm)];exact l6
   refine sg i (by omega) t X _ hb (fun j hj=>gg j (hdep i j hi7 hj) (di j hj)) (fun v Y hv hY=>⟨hs',fun h=>?_,fun _=>⟨updT t i v,rfl,hb.trans (hY.mono hb.size),fun j j1 h=>?_⟩⟩)
   ·rw [hno] at h;cases h
   ·by_cases e:j=i
    ·subst e;rw [updT_same];exact hv
    ·rw [kp j e] at h;rw [updT_ne e];exact st _ _ _ _ j1 (gg j j1 h) hY
def RK (n:Nat) (ops:Array Oper) (mk:(Nat→Value)→Array Value) (W:World) (G:Nat→Value→World→Prop) (Fin1 Fin:Act→World→Prop) (l:Array Bool) (a:Act) (X:World):Prop:=
 l.size=n+2∧(∀ i j,Waits ops i j→l.getD i false=true→l.getD j false=true) ∧
  (l.getD (n+1) false=true→(∀ i,i<n+2→l.getD i false=true)∧Fin a X) ∧
  (l.getD (n+1) false=false→l.getD n false=true→(∀ i,i<n+1→l.getD i false=true)∧Fin1 a X) ∧
  (l.getD (n+1) false=false→l.getD n false=false→∃ t:Nat→Value,a=⟨mk t,[]⟩∧Below W.1.size W X∧∀ i,i<n→l.getD i false=true→G i (t i) X)
theorem anc_all {ops:Array Oper} {n:Nat} (hanc:((List.range n).all fun j=>(List.range (n+1)).any fun k=>match ops[k]? with|some o=>decide (j<k)&&o.after.any (fun e=>Region.binds .any e&&e.on==j)|none=>false)=true)
  {f:Nat→Prop} (hcl:∀ i j,Waits ops i j→f i→f j) (hn:∀ j,Waits ops n j→f j):∀ m j,n≤j+m→j<n→f j
 | 0,j,h,hj=>by omega
 | m+1,j,h,hj=>by
  have h1:=List.all_eq_true.1 hanc j (List.mem_range.2 hj)
  obtain ⟨k,hk,h2⟩:=List.any_eq_true.1 h1
  have hk':=List.mem_range.1 hk
  cases ho:ops[k]? with
  | none=>rw [ho] at h2;cases h2
  | some o=>
   rw [ho] at h2
   simp only [Bool.and_eq_true,decide_eq_true_eq] at h2
   obtain ⟨q,hq,h3⟩:=Array.any_eq_true.1 h2.2
   simp only [Bool.and_eq_true,beq_iff_eq] at h3
   have hw:Waits ops k j:=⟨o,ho,o.after[q],Array.getElem_mem hq,h3.1,h3.2⟩
   by_cases hkn:k=n
   ·subst hkn;exact hn j hw
   ·exact hcl k j hw (anc_all hanc hcl hn m k (by omega) (by omega))
def RJ (n:Nat) (ops:Array Oper) (mk:(Nat→Value)→Array Value) (W:World) (G:Nat→Value→World→Prop) (Fin:Act→World→Prop) (l:Array Bool) (a:Act) (X:World):Prop:=
 l.size=n+1∧(∀ i j,Waits ops i j→l.getD i false=true→l.getD j false=true) ∧
  (l.getD n false=true→(∀ i,i<n+1→l.getD i false=true)∧Fin a X) ∧
  (l.getD n false=false→∃ t:Nat→Value,a=⟨mk t,[]⟩∧Below W.1.size W X∧∀ i,i<n→l.getD i false=true→G i (t i) X)
theorem regionJ {P:Program} {id:Nat} {ops:Array Oper} {Q:Exit→Act→World→Prop} {a0:Act} {W:World} (hm:P.follows .mixedOrders=true) (n:Nat)
  (mk:(Nat→Value)→Array Value) (t0:Nat→Value) (G:Nat→Value→World→Prop) (Fin:Act→World→Prop)
  (hn:ops.size=n+1) (hord:((List.range ops.size).all fun i=>match ops[i]? with|some o=>o.after.all (fun e=>decide (e.on<i))|none=>true)=true)
  (hanc:((List.range n).all fun j=>(List.range (n+1)).any fun k=>match ops[k]? with|some o=>decide (j<k)&&o.after.any (fun e=>Region.binds .any e&&e.on==j)|none=>false)=true)
  (st:∀ i v X Y,i<n→G i v X→Below X.1.size X Y→G i v Y)
  (h0:a0=⟨mk t0,[]⟩)
  (sg:∀ i,i<n→∀ (t:Nat→Value) X K,Below W.1.size W X→(∀ j,Waits ops i j→G j (t j) X)→(∀ v Y,G i v Y→Below X.1.size X Y→K ⟨mk (updT t i v),[]⟩ Y)→wpOp P ops Q i K ⟨mk t,[]⟩ X)
  (sl:∀ (t:Nat→Value) X K,Below W.1.size W X→(∀ j,j<n→G j (t j) X)→(∀ a Y,Fin a Y→K a Y)→wpOp P ops Q n K ⟨mk t,[]⟩ X)
  (hfin:∀ a X,Fin a X→Q .normal a X):(Code.region id ops true).wp P Q a0 W:=by
 have hdep:∀ i j,i<n+1→Waits ops i j→j<i:=by
  rintro i j hi ⟨o,ho,e,he,_,rfl⟩
  have h1:=List.all_eq_true.1 hord i (List.mem_range.2 (by omega))
  rw [ho] at h1
  exact of_decide_eq_true (Array.all_eq_true_iff_forall_mem.1 h1 e he)
 refine wp_region_inv hm (RJ n ops mk W G Fin) ?_ ?_ ?_ ?_
 ·have hz:∀ i,(Array.replicate ops.size false).getD i false=false:=fun i=>by simp [Array.getD]
  refine ⟨by simp [hn],fun i j _ h=>?_,fun h=>?_,fun _=>⟨t0,h0,(Below.refl _ _).drew,fun i _ h=>?_⟩⟩<;>(rw [hz] at h;cases h)
 ·rintro l a X ⟨hs,_⟩
  rw [hs,hn]
 ·rintro l a X ⟨hs,_,h6,_⟩ hr
  have AL:=all_listed hord (by rw [hs,hn]) hr
  exact hfin a X (h6 (AL n (by omega))).2
 ·rintro l a X i ⟨hs,hcl,h6,hg⟩ hr
  obtain ⟨hu,o,ho,hall⟩:=mem_ready.1 hr
  have di:∀ j,Waits ops i j→l.getD j false=true:=by
   rintro j ⟨o',ho',e,he,hb,rfl⟩
   rw [ho] at ho'
   obtain rfl:o=o':=by simpa using ho'
   exact hall e he hb
  have hi7:i<n+1:=by
   rcases Nat.lt_or_ge i (n+1) with h|h
   ·exact h
   ·rw [Array.getElem?_eq_none (by omega)] at ho
    cases ho
  have hui:l.getD i false=false:=by
   have:l.getD i true=false:=hu
   simpa [Array.getD,hs,hi7] using this
  have l6:l.getD n false=false:=by
   cases h:l.getD n false with
   | false=>rfl
   | true=>rw [(h6 h).1 i hi7] at hui;cases hui
  obtain ⟨t,rfl,hb,gg⟩:=hg l6
  have kp:∀ j,¬j=i→(l.setIfInBounds i true).getD j false=l.getD j false:=fun j hj=>by rw [getD_set (by omega),if_neg hj]
  have ki:(l.setIfInBounds i true).getD i false=true:=by rw [getD_set (by omega),if_pos rfl]
  have hs':(l.setIfInBounds i true).size=n+1:=by simp [hs]
  have ku:∀ j,l.getD j false=true→(l.setIfInBounds i true).getD j false=true:=fun j h=>by
   by_cases e:j=i
   ·subst e;exact ki
   ·rw [kp j e];exact h
  have hcl':∀ p j,Waits ops p j→(l.setIfInBounds i true).getD p false=true→(l.setIfInBounds i true).getD j false=true:=fun p j hj h=>by
   by_cases e:p=i
   ·subst e;exact ku j (di j hj)
   ·rw [kp p e] at h;exact ku j (hcl p j hj h)
  by_cases hin:i=n
  ·subst hin
   have al:=fun j hj=>anc_all (f:=fun j=>l.getD j false=true) hanc hcl di i j (by omega) hj
   clear hr hu ho h6 hg
   refine sl t X _ hb (fun j hj=>gg j hj (al j hj)) (fun a Y hY=>⟨hs',hcl',fun _=>⟨fun j hj=>?_,hY⟩,fun h=>?_⟩)
   ·by_cases e:j=i
    ·subst e;exact ki
    ·exact ku j (al j (by omega))
   ·rw [ki] at h;cases h
  ·clear hr hu ho h6 hg
   have hno:(l.setIfInBounds i true).getD n false=false:=by rw [kp n (fun e=>hin e.symm)];exact l6
   refine sg i (by omega) t X _ hb (fun j hj=>gg j (by have:=hdep i j hi7 hj;omega) (di j hj)) (fun v Y hv hY=>⟨hs',hcl',fun h=>?_,fun _=>⟨updT t i v,rfl,hb.trans (hY.mono hb.size),fun j j1 h=>?_⟩⟩)
   ·rw [hno] at h;cases h
   ·by_cases e:j=i
    ·subst e;rw [updT_same];exact hv
    ·rw [kp j e] at h;rw [updT_ne e];exact st _ _ _ _ j1 (gg j j1 h) hY
theorem all_listedB {ops:Array Oper} {l:Array Bool} (hord:((List.range ops.size).all fun i=>match ops[i]? with|some o=>o.after.all (fun e=>!(Region.binds .any e)||decide (e.on<i))|none=>true)=true) (hs:l.size=ops.size) (hr:Region.ready .any ops l=[]):∀ i,i<ops.size→l.getD i false=true:=by
 have conv:∀ i,i<ops.size→l.getD i true=l.getD i false:=fun i hi=>by simp [Array.getD,hs,hi]
 intro i
 induction i using Nat.strongRecOn with
 | _ i ih=>
  intro hi
  cases hg:l.getD i false with
  | true=>rfl
  | false=>
   have hm:i ∈ Region.ready .any ops l:=by
    rw [mem_ready]
    refine ⟨(conv i hi).trans hg,ops[i],by simp [hi],fun e he hbd=>?_⟩
    have h1:=List.all_eq_true.1 hord i (by simpa using hi)
    simp only [Array.getElem?_eq_getElem hi] at h1
    have h2:=(Array.all_eq_true_iff_forall_mem.1 h1) e he
    rw [hbd] at h2
    have h3:e.on<i:=by simpa using h2
    exact ih e.on h3 (by omega)
   rw [hr] at hm
   cases hm
theorem regionIC {P:Program} {id:Nat} {ops:Array Oper} {Q:Exit→Act→World→Prop} {a0:Act} {W:World} (hm:P.follows .mixedOrders=true) (n:Nat)
  (mk:(Nat→Value)→Array Value) (t0:Nat→Value) (I:(Nat→Bool)→(Nat→Value)→World→Prop)
  (hn:ops.size=n) (hord:((List.range ops.size).all fun i=>match ops[i]? with|some o=>o.after.all (fun e=>!(Region.binds .any e)||decide (e.on<i))|none=>true)=true)
  (h0:a0=⟨mk t0,[]⟩) (hI:∀ f:Nat→Bool,(∀ i,f i=false)→I f t0 W.drew)
  (sg:∀ i,i<n→∀ (f:Nat→Bool) (t:Nat→Value) X K,I f t X→f i=false→(∀ j,Waits ops i j→f j=true)→(∀ p j,Waits ops p j→f p=true→f j=true)→(∀ v Y,(∀ g:Nat→Bool,g i=true→(∀ j,¬j=i→g j=f j)→I g (updT t i v) Y)→K ⟨mk (updT t i v),[]⟩ Y)→wpOp P ops Q i K ⟨mk t,[]⟩ X)
  (hfin:∀ (f:Nat→Bool) t X,(∀ i,i<n→f i=true)→I f t X→Q .normal ⟨mk t,[]⟩ X):(Code.region id ops true).wp P Q a0 W:=by
 refine wp_region_inv hm (fun l a X=>l.size=n∧(∀ p j,Waits ops p j→l.getD p false=true→l.getD j false=true)∧∃ t,a=⟨mk t,[]⟩∧I (fun i=>l.getD i false) t X) ?_ ?_ ?_ ?_
 ·have hz:∀ i,(Array.replicate ops.size false).getD i false=false:=fun i=>by simp [Array.getD]
  exact ⟨by simp [hn],fun p j _ h=>(by rw [hz] at h;cases h),t0,h0,hI _ hz⟩
 ·rintro l a X ⟨hs,_⟩
  rw [hs,hn]
 ·rintro l a X ⟨hs,_,t,rfl,h⟩ hr
  exact hfin _ t X (fun i hi=>all_listedB hord (by rw [hs,hn]) hr i (by omega)) h
 ·rintro l a X i ⟨hs,hcl,t,rfl,h⟩ hr
  obtain ⟨hu,o,ho,hall⟩:=mem_ready.1 hr
  have di:∀ j,Waits ops i j→l.getD j false=true:=by
   rintro j ⟨o',ho',e,he,hb,rfl⟩
   rw [ho] at ho'
   obtain rfl:o=o':=by simpa using ho'
   exact hall e he hb
  have hi7:i<n:=by
   rcases Nat.lt_or_ge i n with h|h
   ·exact h
   ·rw [Array.getElem?_eq_none (by omega)] at ho
    cases ho
  have hui:l.getD i false=false:=by
   have:l.getD i true=false:=hu
   simpa [Array.getD,hs,hi7] using this
  have ki:(l.setIfInBounds i true).getD i false=true:=by rw [getD_set (by omega),if_pos rfl]
  have kp:∀ j,¬j=i→(l.setIfInBounds i true).getD j false=l.getD j false:=fun j hj=>by rw [getD_set (by omega),if_neg hj]
  have ku:∀ j,l.getD j false=true→(l.setIfInBounds i true).getD j false=true:=fun j h=>by
   by_cases e:j=i
   ·subst e;exact ki
   ·rw [kp j e];exact h
  refine sg i hi7 _ t X _ h hui di hcl (fun v Y hY=>⟨by simp [hs],fun p j hj h=>?_,updT t i v,rfl,hY _ ki kp⟩)
  by_cases e:p=i
  ·subst e;exact ku j (di j hj)
  ·rw [kp p e] at h;exact ku j (hcl p j hj h)
theorem regionI {P:Program} {id:Nat} {ops:Array Oper} {Q:Exit→Act→World→Prop} {a0:Act} {W:World} (hm:P.follows .mixedOrders=true) (n:Nat)
  (mk:(Nat→Value)→Array Value) (t0:Nat→Value) (I:(Nat→Bool)→(Nat→Value)→World→Prop)
  (hn:ops.size=n) (hord:((List.range ops.size).all fun i=>match ops[i]? with|some o=>o.after.all (fun e=>!(Region.binds .any e)||decide (e.on<i))|none=>true)=true)
  (h0:a0=⟨mk t0,[]⟩) (hI:∀ f:Nat→Bool,(∀ i,f i=false)→I f t0 W.drew)
  (sg:∀ i,i<n→∀ (f:Nat→Bool) (t:Nat→Value) X K,I f t X→f i=false→(∀ j,Waits ops i j→f j=true)→(∀ v Y,(∀ g:Nat→Bool,g i=true→(∀ j,¬j=i→g j=f j)→I g (updT t i v) Y)→K ⟨mk (updT t i v),[]⟩ Y)→wpOp P ops Q i K ⟨mk t,[]⟩ X)
  (hfin:∀ (f:Nat→Bool) t X,(∀ i,i<n→f i=true)→I f t X→Q .normal ⟨mk t,[]⟩ X):(Code.region id ops true).wp P Q a0 W:=
 regionIC hm n mk t0 I hn hord h0 hI (fun i hi f t X K h1 h2 h3 _ h5=>sg i hi f t X K h1 h2 h3 h5) hfin
theorem regionV {P:Program} {id:Nat} {ops:Array Oper} {Q:Exit→Act→World→Prop} {a0:Act} {W:World} (hm:P.follows .mixedOrders=true) (n:Nat)
  (mk:(Nat→Value)→Array Value) (t0:Nat→Value) (G:Nat→Value→World→Prop)
  (hn:ops.size=n) (hord:((List.range ops.size).all fun i=>match ops[i]? with|some o=>o.after.all (fun e=>!(Region.binds .any e)||decide (e.on<i))|none=>true)=true)
  (st:∀ i v X Y,i<n→G i v X→Below X.1.size X Y→G i v Y)
  (h0:a0=⟨mk t0,[]⟩)
  (sg:∀ i,i<n→∀ (t:Nat→Value) X K,Below W.1.size W X→(∀ j,Waits ops i j→G j (t j) X)→(∀ v Y,G i v Y→Below X.1.size X Y→K ⟨mk (updT t i v),[]⟩ Y)→wpOp P ops Q i K ⟨mk t,[]⟩ X)
  (hfin:∀ t X,Below W.1.size W X→(∀ j,j<n→G j (t j) X)→Q .normal ⟨mk t,[]⟩ X):(Code.region id ops true).wp P Q a0 W:=by
 refine regionI hm n mk t0 (fun f t X=>Below W.1.size W X∧∀ i,i<n→f i=true→G i (t i) X) hn hord h0 ?_ ?_ ?_
 ·intro f hf
  exact ⟨(Below.refl _ _).drew,fun i _ h=>by rw [hf] at h;cases h⟩
 ·rintro i hi f t X K ⟨hb,hG⟩ hfi hw hK
  refine sg i hi t X K hb (fun j hj=>hG j ?_ (hw j hj)) (fun v Y hv hbY=>hK v Y (fun g hgi hgj=>⟨hb.trans (hbY.mono hb.size),fun j hj h=>?_⟩))
  ·obtain ⟨o,ho,e,he,hbd,rfl⟩:=hj
   have h1:=List.all_eq_true.1 hord i (by rw [hn];simpa using hi)
   simp only [ho] at h1
   have h2:=(Array.all_eq_true_iff_forall_mem.1 h1) e he
   rw [hbd] at h2
   have h3:e.on<i:=by simpa using h2
   omega
  ·by_cases e:j=i
   ·subst e
    rw [updT_same]
    exact hv
   ·rw [updT_ne e]
    rw [hgj j e] at h
    exact st j _ X Y hj (hG j hj h) hbY
 ·rintro f t X hf ⟨hb,hG⟩
  exact hfin t X hb (fun j hj=>hG j hj (hf j hj))
end Go.Proofs.YtllmmkchokkaaaaGreatDoor
