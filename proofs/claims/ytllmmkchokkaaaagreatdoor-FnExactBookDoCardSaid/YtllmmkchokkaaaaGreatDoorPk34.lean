import Derived.Test.YtllmmkchokkaaaaGreatDoorPk33
set_option maxRecDepth 100000
namespace Go.Proofs.YtllmmkchokkaaaaGreatDoor
open Go.RowKit Go.Maps
/-! the objects behind a write,as a list -/
theorem opOb_ver (B:Bk) (v:Wr) (a b:Int):(⟨(opOb B v a).kind,(opOb B v a).name,b,(opOb B v a).born,(opOb B v a).text,(opOb B v a).ending,(opOb B v a).hn,(opOb B v a).hs⟩:Ob)=opOb B v b:=by
 unfold opOb
 split
 ·rfl
 ·split
  ·rfl
  ·split
   ·rfl
   ·split<;>rfl
theorem eoV_ob {B:Bk} {v:Wr} {E:EO} {a:Int} (h:E.ob=opOb B v a):(eoV B E).ob=wOb B v:=by
 unfold eoV
 dsimp only
 rw [h]
 exact opOb_ver B v a _
theorem filter_erase (p:EO→Bool):∀ (L:List EO) (k:Nat),k<L.length→(∀ j,j<L.length→p (ixE L j) = !decide (j=k))→L.filter p=L.eraseIdx k
 | [],k,h,_=>absurd h (Nat.not_lt_zero _)
 | e::L,0,_,h=>by
  have h0:p e=false:=by simpa [ixE] using h 0 (by simp)
  have h1:L.filter p=L:=List.filter_eq_self.2 fun f hf=>by
   obtain ⟨i,hi,rfl⟩:=mem_ixE hf
   have:=h (i+1) (by simpa using hi)
   simpa [ixE] using this
  rw [List.filter_cons_of_neg (by rw [h0];decide),h1]
  rfl
 | e::L,k+1,hk,h=>by
  have h0:p e=true:=by simpa [ixE] using h 0 (by simp)
  have h1:=filter_erase p L k (by simpa using hk) fun j hj=>by
   have:=h (j+1) (by simpa using hj)
   simpa [ixE] using this
  rw [List.filter_cons_of_pos h0,h1]
  rfl
theorem befB_irr {x z:Ob} (h1:x.kind.toList=z.kind.toList) (h2:x.name.toList=z.name.toList):befB x z=false:=by
 unfold befB
 rw [if_pos h1]
 exact ltB_irr h2
theorem wOb_key {B:Bk} {v:Wr} (hf:fndIs B.os v.kind v.name B.on=true∨v.op=1):(wOb B v).kind=v.kind∧(wOb B v).name=v.name:=by
 by_cases h1:v.op=1
 ·unfold wOb opOb
  rw [if_pos h1]
  exact ⟨rfl,rfl⟩
 ·have hf:fndIs B.os v.kind v.name B.on=true:=hf.resolve_right h1
  have hk:(wOf B v).kind=v.kind∧(wOf B v).name=v.name:=by
   unfold wOf fndOb
   unfold fndIs at hf
   cases hx:fnd B.os v.kind v.name B.on with
   | none=>rw [hx] at hf;cases hf
   | some i=>exact (fnd_lt hx).2
  unfold wOb opOb
  rw [if_neg h1]
  split
  ·exact hk
  ·split
   ·exact hk
   ·split<;>exact hk
theorem code_key {B:Bk} {v:Wr} (hc:wCode B v=0):fndIs B.os v.kind v.name B.on=true∨v.op=1:=by
 cases hf:fndIs B.os v.kind v.name B.on with
 | true=>exact Or.inl rfl
 | false=>
  refine Or.inr ?_
  by_cases h:v.op=1
  ·exact h
  ·have:=(oc_none hf h).1
   unfold wCode at hc
   rw [this,if_neg (by decide)] at hc
   exact absurd hc (by decide)
theorem L2_map {B:Bk} {v:Wr} {L:List EO} {E:EO} {a:Int} (hok:WOk B v) (hl:L.map EO.ob=tkL B.on B.os) (hE:E.ob=opOb B v a) (hc:wCode B v=0) :
  (L2 B v L E).map EO.ob=chgL (wOb B v) (wGone B v) (tkL B.on B.os):=by
 have hlen:L.length=B.on:=by
  have:=congrArg List.length hl
  simpa [tkL] using this
 have hat:∀ i,i<B.on→(ixE L i).ob=B.os i:=fun i hi=>by
  have h4:=ixE_map (L:=L) (i:=i) (by omega)
  rw [hl] at h4
  simpa [tkL,hi] using h4.symm
 obtain ⟨k1,k2⟩:=wOb_key (code_key hc)
 have hpa:=place_at hok
 have hbef:∀ j,j<B.on→(befB (B.os j) (wOb B v)=true↔kcI B.os v.kind v.name j<0):=fun j _=>by
  rw [kc_is B.os v.kind v.name j (wOb B v) k1 k2]
  exact (keyI_neg7 _ _).symm
 have hoth:∀ j,j<B.on→otherK (wOb B v) (B.os j) = !decide (kcI B.os v.kind v.name j=0):=fun j _=>by
  unfold otherK
  rw [←kc_is B.os v.kind v.name j (wOb B v) k1 k2]
  simp
 have huniq:∀ i j,i<j→j<B.on→kcI B.os v.kind v.name i=0→¬kcI B.os v.kind v.name j=0:=fun i j h1 h2 h3 h4=>by
  have h5:=hok.asc i j h1 h2
  have e3:=(kc_nil _ _ _ _).1 h3
  have e4:=(kc_nil _ _ _ _).1 h4
  rw [befB_irr (by rw [e3.1,e4.1]) (by rw [e3.2,e4.2])] at h5
  cases h5
 have hfl:flK (wOb B v) L=L1 B v L:=by
  unfold flK L1
  cases hfo:foB B v with
  | true=>
   rw [if_pos rfl]
   unfold foB at hfo
   rw [Bool.and_eq_true] at hfo
   have h1:plW B v<B.on:=of_decide_eq_true hfo.1
   have h2:kcI B.os v.kind v.name (plW B v)=0:=of_decide_eq_true hfo.2
   refine filter_erase _ L _ (by omega) fun j hj=>?_
   rw [hat j (by omega),hoth j (by omega)]
   congr 1
   by_cases e:j=plW B v
   ·subst e
    simp [h2]
   ·have:¬kcI B.os v.kind v.name j=0:=fun h3=>by
     rcases Nat.lt_or_gt_of_ne e with q|q
     ·exact huniq j _ q h1 h3 h2
     ·exact huniq _ j q (by omega) h2 h3
    simp [e,this]
  | false=>
   rw [if_neg (by decide)]
   refine List.filter_eq_self.2 fun f hf=>?_
   obtain ⟨i,hi,rfl⟩:=mem_ixE hf
   rw [hat i (by omega),hoth i (by omega)]
   have:¬kcI B.os v.kind v.name i=0:=fun h3=>by
    have hfn:=fnd_place hok hpa
    unfold foB at hfo
    rw [if_neg (fun q=>by simp [q.1,q.2] at hfo)] at hfn
    have h4:=(kc_nil _ _ _ _).1 h3
    have h5:∃ k,fnd B.os v.kind v.name (i+1)=some k:=by
     cases hx:fnd B.os v.kind v.name i with
     | none=>exact ⟨i,fnd_hit hx h4⟩
     | some k=>exact ⟨k,fnd_some hx⟩
    obtain ⟨k,hk⟩:=h5
    rw [fnd_keep hk (show i+1≤B.on by omega)] at hfn
    cases hfn
   simp [this]
 have hpl:placeP (wOb B v) L (plW B v):=by
  refine ⟨by have:=hpa.1;omega,fun j hj=>?_,fun h=>?_⟩
  ·have h1:=hpa.1
   rw [hat j (by omega),hbef j (by omega)]
   exact hpa.2.1 j hj
  ·rw [hat _ (by omega)]
   cases hx:befB (B.os (plW B v)) (wOb B v) with
   | false=>rfl
   | true=>exact absurd ((hbef _ (by omega)).1 hx) (hpa.2.2 _ (Nat.le_refl _) (by omega))
 have hEv:=eoV_ob hE
 unfold L2 chgL
 rw [←hl]
 cases hg:wGone B v with
 | true=>
  rw [if_pos rfl,if_pos rfl,←hfl,flK_map]
 | false=>
  rw [if_neg (by decide),if_neg (by decide),←hfl]
  have h1:=put_list (o:=eoV B E) (L:=L) (k:=plW B v) (by rw [hEv];exact hpl)
  rw [hEv] at h1
  exact h1
theorem L2_len {B:Bk} {v:Wr} {L:List EO} {E:EO} {a:Int} (hok:WOk B v) (hl:L.map EO.ob=tkL B.on B.os) (hE:E.ob=opOb B v a) (hc:wCode B v=0) :
  (L2 B v L E).length=(wBk B v).on∧∀ i,i<(wBk B v).on→(ixE (L2 B v L E) i).ob=(wBk B v).os i:=by
 have h1:=L2_map hok hl hE hc
 rw [←putAll_list7] at h1
 have h2:(L2 B v L E).length=(wBk B v).on:=by
  have:=congrArg List.length h1
  simpa [tkL,wBk] using this
 refine ⟨h2,fun i hi=>?_⟩
 have h4:=ixE_map (L:=L2 B v L E) (i:=i) (by omega)
 rw [h1] at h4
 have hi':i<(putAll B.on B.os (wOb B v) (wGone B v)).m:=hi
 simpa [tkL,hi',wBk] using h4.symm
end Go.Proofs.YtllmmkchokkaaaaGreatDoor
