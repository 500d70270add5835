import Derived.Test.YtllmmkchokkaaaaGreatDoorPk16
set_option maxRecDepth 100000
set_option maxHeartbeats 1000000
namespace Go.Proofs.YtllmmkchokkaaaaGreatDoor
open Go.RowKit Go.Maps
def sEq (n:Nat) (s:Nat→ByteArray) (m:Nat) (t:Nat→ByteArray):Bool:=decide (n=m)&&allTo (fun i=>decide (s i=t i)) n
def sameB (x z:Ob):Bool:=decide (x.kind=z.kind)&&(decide (x.name=z.name)&&(decide (x.ver=z.ver)&&(decide (x.born=z.born)&&(decide (x.text=z.text)&&(decide (x.ending=z.ending)&&sEq x.hn x.hs z.hn z.hs)))))
theorem beq_false {a b:ByteArray} (h:¬a=b):(a.toList==b.toList)=false:=by
 cases hb:(a.toList==b.toList) with
 | false=>rfl
 | true=>exact absurd (toList_inj' (eq_of_beq hb)) h
theorem drewN_two (w:World) (a b:Nat):∃ q,(w.drewN a).drewN b=w.drewN q:=⟨a+b,by simp [World.drewN,Nat.add_assoc]⟩
theorem slicesEq_any (n m:Nat) (s t:Nat→ByteArray) (ad ad2:Option Addr) (cap cap2:Nat) (w:World) (lo hi lo2 hi2:Nat) (hl:(n:Int)≤140737488355328) (hm:(m:Int)≤140737488355328)
  (hc:StrsIn w lo hi ad n s) (hc2:StrsIn w lo2 hi2 ad2 m t) :
  Calls Tryz.prog 180 #[.slice ad n cap,.slice ad2 m cap2] w fun e w'=>e=.returned (.bool (sEq n s m t))∧∃ q,w'=w.drewN q:=by
 by_cases hq:n=m
 case neg=>
  have HE:=hid (show sEq n s m t=false by simp [sEq,hq])
  have hd:¬(n:Int)=m:=Za
  go_enter Tryz.func180,Tryz.ntmps180
  go_wp2
  go_ret
  exact ⟨ret_bool HE.out.symm,0,rfl⟩
 subst hq
 go_enter Tryz.func180,Tryz.ntmps180
 go_wp2
 go_loopw [13] (fun i wr=>∃ k:Nat,k≤n∧i=.int .i64 k∧(∀ j,j<k→s j=t j)∧∃ q,wr=w.drewN q) (fun i _=>n-(intOf i).toNat)
 case atStart=>exact ⟨0,Nat.zero_le _,rfl,fun j hj=>absurd hj (Nat.not_lt_zero _),0,rfl⟩
 case round=>
  obtain ⟨k,hk,rfl,hall,q,rfl⟩:=hrel
  by_cases hkn:k<n
  ·obtain ⟨b,off,rfl,hlo,hbh,hcx⟩:=hc k hkn
   obtain ⟨b2,off2,rfl,hlo2,hbh2,hcx2⟩:=hc2 k hkn
   have HA:=hid hall
   clear hc hc2 hall
   by_cases he:s k=t k
   ·have HS:=hid he
    have hd:((s k).toList==(t k).toList)=true:=by rw [he];simp
    clear he
    go_wp2
    go_quiet (fail)
    go_wp2
    go_roundw
    case rel=>exact ⟨k+1,Za,by go_num,fun j hj=>(by
     rcases Nat.lt_or_ge j k with h3|h3
     ·exact HA.out j h3
     ·have:j=k:=Za
      subst this;exact HS.out),_,rfl⟩
    case measure=>simp [intOf];omega
   ·have HE:=hid (show sEq n s n t=false by unfold sEq;rw [allTo_no (p:=fun i=>decide (s i=t i)) hkn (by simp [he])];simp)
    have hd:((s k).toList==(t k).toList)=false:=beq_false he
    clear he
    go_wp2
    go_quiet (fail)
    go_wp2
    go_ret
    exact ⟨ret_bool HE.out.symm,drewN_two _ _ _⟩
  ·have HE:=hid (show sEq n s n t=true by unfold sEq;rw [allTo_iff.2 (fun i hi=>by simp [hall i Za])];simp)
   clear hc hc2 hall
   go_wp2
   go_ret
   exact ⟨ret_bool HE.out.symm,q,rfl⟩
theorem apP181 {P:Prop} (h:P:=by
  go_enter Tryz.func130,Tryz.ntmps130
  go_wp2
  go_ret
  exact ⟨ret_bool HE.out.symm,((below_alloc' _ _).alloc Zd _)⟩):P:=h
theorem l1Same_any (x z:Ob) (ad ad2:Option Addr) (cap cap2:Nat) (w:World) (lo hi:Nat) (hhi:hi≤w.1.size) (hx:(x.hn:Int)≤140737488355328) (hz:(z.hn:Int)≤140737488355328) (hc:StrsIn w lo hi ad x.hn x.hs) (hc2:StrsIn w lo hi ad2 z.hn z.hs) :
  Calls Tryz.prog 130 #[.agg #[.string x.kind,.string x.name,.int .i64 x.ver,.int .i64 x.born,.string x.text,.bool x.ending,.slice ad x.hn cap],.agg #[.string z.kind,.string z.name,.int .i64 z.ver,.int .i64 z.born,.string z.text,.bool z.ending,.slice ad2 z.hn cap2]] w fun e w'=>e=.returned (.bool (sameB x z))∧Below w.1.size w w':=by
 obtain ⟨k,na,v,bo,te,en,hn,hs⟩:=x
 obtain ⟨k',na',v',bo',te',en',hn',hs'⟩:=z
 dsimp only at hx hz hc hc2 ⊢
 by_cases hq:k=k'
 case neg=>
  have HE:=hid (show sameB ⟨k,na,v,bo,te,en,hn,hs⟩ ⟨k',na',v',bo',te',en',hn',hs'⟩=false by simp [sameB,hq])
  have hd:(k.toList==k'.toList)=false:=beq_false hq
  clear hq
  exact apP181
 subst hq
 by_cases hq:na=na'
 case neg=>
  have HE:=hid (show sameB ⟨k,na,v,bo,te,en,hn,hs⟩ ⟨k,na',v',bo',te',en',hn',hs'⟩=false by simp [sameB,hq])
  have hd:(na.toList==na'.toList)=false:=beq_false hq
  clear hq
  exact apP181
 subst hq
 by_cases hq:v=v'
 case neg=>
  have HE:=hid (show sameB ⟨k,na,v,bo,te,en,hn,hs⟩ ⟨k,na,v',bo',te',en',hn',hs'⟩=false by simp [sameB,hq])
  have hd:=hq
  exact apP181
 subst hq
 by_cases hq:bo=bo'
 case neg=>
  have HE:=hid (show sameB ⟨k,na,v,bo,te,en,hn,hs⟩ ⟨k,na,v,bo',te',en',hn',hs'⟩=false by simp [sameB,hq])
  have hd:=hq
  exact apP181
 subst hq
 by_cases hq:te=te'
 case neg=>
  have HE:=hid (show sameB ⟨k,na,v,bo,te,en,hn,hs⟩ ⟨k,na,v,bo,te',en',hn',hs'⟩=false by simp [sameB,hq])
  have hd:(te.toList==te'.toList)=false:=beq_false hq
  clear hq
  exact apP181
 subst hq
 by_cases hq:en=en'
 case neg=>
  have HE:=hid (show sameB ⟨k,na,v,bo,te,en,hn,hs⟩ ⟨k,na,v,bo,te,en',hn',hs'⟩=false by simp [sameB,hq])
  have hd:(en==en')=false:=by simpa using hq
  clear hq
  cases en<;>cases en'<;>simp at hd
  all_goals
   go_enter Tryz.func130,Tryz.ntmps130
   go_wp2
   go_ret
   exact ⟨ret_bool HE.out.symm,((below_alloc' _ _).alloc Zd _)⟩
 subst hq
 by_cases hq:hn=hn'
 case neg=>
  have HE:=hid (show sameB ⟨k,na,v,bo,te,en,hn,hs⟩ ⟨k,na,v,bo,te,en,hn',hs'⟩=false by simp [sameB,sEq,hq])
  have hd:¬(hn:Int)=hn':=Za
  exact apP181
 subst hq
 go_enter Tryz.func130,Tryz.ntmps130
 go_wp2
 go_loopw [5] (fun i wr=>∃ j:Nat,j≤hn∧i=.int .i64 j∧(∀ l,l<j→hs l=hs' l)∧∃ q,wr=((w.alloc (.cells #[.string k,.string na,.int .i64 v,.int .i64 bo,.string te,.bool en,.slice ad hn cap] 118)).alloc (.cells #[.string k,.string na,.int .i64 v,.int .i64 bo,.string te,.bool en,.slice ad2 hn cap2] 118)).drewN q) (fun i _=>hn-(intOf i).toNat)
 case atStart=>exact ⟨0,Nat.zero_le _,rfl,fun j hj=>absurd hj (Nat.not_lt_zero _),0,rfl⟩
 case round=>
  obtain ⟨j,hj,rfl,hall,q,rfl⟩:=hrel
  by_cases hkn:j<hn
  ·obtain ⟨b,off,rfl,hlo,hbh,hcx⟩:=hc j hkn
   obtain ⟨b2,off2,rfl,hlo2,hbh2,hcx2⟩:=hc2 j hkn
   have hbw:b<w.1.size:=Za
   have hbw2:b2<w.1.size:=Za
   have f1:=fun o1 o2=>(World.cell?_alloc_past (w:=w.alloc o1) o2 _ _ Zc).trans ((World.cell?_alloc_past (w:=w) o1 _ _ hbw).trans hcx)
   have f2:=fun o1 o2=>(World.cell?_alloc_past (w:=w.alloc o1) o2 _ _ Zc).trans ((World.cell?_alloc_past (w:=w) o1 _ _ hbw2).trans hcx2)
   have HA:=hid hall
   clear hc hc2 hall
   by_cases he:hs j=hs' j
   ·have HS:=hid he
    have hd:((hs j).toList==(hs' j).toList)=true:=by rw [he];simp
    clear he
    go_wp2
    go_quiet (fail)
    go_wp2
    go_roundw
    case rel=>exact ⟨j+1,Za,by go_num,fun l hl=>(by
     rcases Nat.lt_or_ge l j with h3|h3
     ·exact HA.out l h3
     ·have:l=j:=Za
      subst this;exact HS.out),_,rfl⟩
    case measure=>simp [intOf];omega
   ·have HE:=hid (show sameB ⟨k,na,v,bo,te,en,hn,hs⟩ ⟨k,na,v,bo,te,en,hn,hs'⟩=false by simp only [sameB,sEq];rw [allTo_no (p:=fun i=>decide (hs i=hs' i)) hkn (by simp [he])];simp)
    have hd:((hs j).toList==(hs' j).toList)=false:=beq_false he
    clear he
    go_wp2
    go_quiet (fail)
    go_wp2
    go_ret
    exact ⟨ret_bool HE.out.symm,((below_alloc' _ _).alloc Zd _).trans (((below_drewN' _ _).trans ((below_drewN' _ _).mono Zd)).mono Zc)⟩
  ·have HE:=hid (show sameB ⟨k,na,v,bo,te,en,hn,hs⟩ ⟨k,na,v,bo,te,en,hn,hs'⟩=true by simp only [sameB,sEq];rw [allTo_iff.2 (fun i hi=>by simp [hall i Za])];simp)
   clear hc hc2 hall
   go_wp2
   go_ret
   exact ⟨ret_bool HE.out.symm,((below_alloc' _ _).alloc Zd _).trans ((below_drewN' _ _).mono Zc)⟩
theorem apP180 {P:Prop} (h:P:=by
  clear hu u hne x0 x1 x2 x3 x4 x5 x6 z0 z1 z2 z3 z4 z5 z6
  go_wp2
  go_ret
  exact ⟨ret_bool HE.out.symm,((below_alloc' _ _).alloc Zd _).trans (hw2.mono Zc)⟩):P:=h
theorem sameOb_k (k k':ByteArray) (na na':ByteArray) (v v':Int) (bo bo':Int) (te te':ByteArray) (en en':Bool) (hn hn':Nat) (hs hs':Nat→ByteArray) (ad ad2:Option Addr) (cap cap2:Nat) (w:World) (lo hi:Nat) (hhi:hi≤w.1.size) (_hx:(hn:Int)≤140737488355328) (_hz:(hn':Int)≤140737488355328) (hc:StrsIn w lo hi ad hn hs) (hc2:StrsIn w lo hi ad2 hn' hs') (hq:¬k=k') :
  Calls Tryz.prog 143 #[.agg #[.string k,.string na,.int .i64 v,.int .i64 bo,.string te,.bool en,.slice ad hn cap],.agg #[.string k',.string na',.int .i64 v',.int .i64 bo',.string te',.bool en',.slice ad2 hn' cap2]] w fun e w'=>e=.returned (.bool (sameB ⟨k,na,v,bo,te,en,hn,hs⟩ ⟨k',na',v',bo',te',en',hn',hs'⟩))∧Below w.1.size w w':=by
 have HE:=hid (show sameB ⟨k,na,v,bo,te,en,hn,hs⟩ ⟨k',na',v',bo',te',en',hn',hs'⟩=false by simp [sameB,hq])
 have hd:(k.toList==k'.toList)=false:=beq_false hq
 clear hq
 go_enter Tryz.func143,Tryz.ntmps143
 go_wp2
 have hne:Nonempty (GW ((w.alloc (.cells #[.string k,.string na,.int .i64 v,.int .i64 bo,.string te,.bool en,.slice ad hn cap] 118)).alloc (.cells #[.string k',.string na',.int .i64 v',.int .i64 bo',.string te',.bool en',.slice ad2 hn' cap2] 118))):=⟨⟨_,Below.refl _ _⟩⟩
 have x0:=subcell (W1:=(w.alloc (.cells #[.string k,.string na,.int .i64 v,.int .i64 bo,.string te,.bool en,.slice ad hn cap] 118)).alloc (.cells #[.string k',.string na',.int .i64 v',.int .i64 bo',.string te',.bool en',.slice ad2 hn' cap2] 118)) (p:=⟨w.1.size,0,none⟩) (v:=.string k) (box2_cell Zbv 0) Zc
 have z0:=subcell (W1:=(w.alloc (.cells #[.string k,.string na,.int .i64 v,.int .i64 bo,.string te,.bool en,.slice ad hn cap] 118)).alloc (.cells #[.string k',.string na',.int .i64 v',.int .i64 bo',.string te',.bool en',.slice ad2 hn' cap2] 118)) (p:=⟨w.1.size+1,0,none⟩) (v:=.string k') Zd Zd
 have x1:=subcell (W1:=(w.alloc (.cells #[.string k,.string na,.int .i64 v,.int .i64 bo,.string te,.bool en,.slice ad hn cap] 118)).alloc (.cells #[.string k',.string na',.int .i64 v',.int .i64 bo',.string te',.bool en',.slice ad2 hn' cap2] 118)) (p:=⟨w.1.size,1,none⟩) (v:=.string na) (box2_cell Zbv 1) Zc
 have z1:=subcell (W1:=(w.alloc (.cells #[.string k,.string na,.int .i64 v,.int .i64 bo,.string te,.bool en,.slice ad hn cap] 118)).alloc (.cells #[.string k',.string na',.int .i64 v',.int .i64 bo',.string te',.bool en',.slice ad2 hn' cap2] 118)) (p:=⟨w.1.size+1,1,none⟩) (v:=.string na') Zd Zd
 have x2:=subcell (W1:=(w.alloc (.cells #[.string k,.string na,.int .i64 v,.int .i64 bo,.string te,.bool en,.slice ad hn cap] 118)).alloc (.cells #[.string k',.string na',.int .i64 v',.int .i64 bo',.string te',.bool en',.slice ad2 hn' cap2] 118)) (p:=⟨w.1.size,2,none⟩) (v:=.int .i64 v) (box2_cell Zbv 2) Zc
 have z2:=subcell (W1:=(w.alloc (.cells #[.string k,.string na,.int .i64 v,.int .i64 bo,.string te,.bool en,.slice ad hn cap] 118)).alloc (.cells #[.string k',.string na',.int .i64 v',.int .i64 bo',.string te',.bool en',.slice ad2 hn' cap2] 118)) (p:=⟨w.1.size+1,2,none⟩) (v:=.int .i64 v') Zd Zd
 have x3:=subcell (W1:=(w.alloc (.cells #[.string k,.string na,.int .i64 v,.int .i64 bo,.string te,.bool en,.slice ad hn cap] 118)).alloc (.cells #[.string k',.string na',.int .i64 v',.int .i64 bo',.string te',.bool en',.slice ad2 hn' cap2] 118)) (p:=⟨w.1.size,3,none⟩) (v:=.int .i64 bo) (box2_cell Zbv 3) Zc
 have z3:=subcell (W1:=(w.alloc (.cells #[.string k,.string na,.int .i64 v,.int .i64 bo,.string te,.bool en,.slice ad hn cap] 118)).alloc (.cells #[.string k',.string na',.int .i64 v',.int .i64 bo',.string te',.bool en',.slice ad2 hn' cap2] 118)) (p:=⟨w.1.size+1,3,none⟩) (v:=.int .i64 bo') Zd Zd
 have x4:=subcell (W1:=(w.alloc (.cells #[.string k,.string na,.int .i64 v,.int .i64 bo,.string te,.bool en,.slice ad hn cap] 118)).alloc (.cells #[.string k',.string na',.int .i64 v',.int .i64 bo',.string te',.bool en',.slice ad2 hn' cap2] 118)) (p:=⟨w.1.size,4,none⟩) (v:=.string te) (box2_cell Zbv 4) Zc
 have z4:=subcell (W1:=(w.alloc (.cells #[.string k,.string na,.int .i64 v,.int .i64 bo,.string te,.bool en,.slice ad hn cap] 118)).alloc (.cells #[.string k',.string na',.int .i64 v',.int .i64 bo',.string te',.bool en',.slice ad2 hn' cap2] 118)) (p:=⟨w.1.size+1,4,none⟩) (v:=.string te') Zd Zd
 have x5:=subcell (W1:=(w.alloc (.cells #[.string k,.string na,.int .i64 v,.int .i64 bo,.string te,.bool en,.slice ad hn cap] 118)).alloc (.cells #[.string k',.string na',.int .i64 v',.int .i64 bo',.string te',.bool en',.slice ad2 hn' cap2] 118)) (p:=⟨w.1.size,5,none⟩) (v:=.bool en) (box2_cell Zbv 5) Zc
 have z5:=subcell (W1:=(w.alloc (.cells #[.string k,.string na,.int .i64 v,.int .i64 bo,.string te,.bool en,.slice ad hn cap] 118)).alloc (.cells #[.string k',.string na',.int .i64 v',.int .i64 bo',.string te',.bool en',.slice ad2 hn' cap2] 118)) (p:=⟨w.1.size+1,5,none⟩) (v:=.bool en') Zd Zd
 have x6:=subcell (W1:=(w.alloc (.cells #[.string k,.string na,.int .i64 v,.int .i64 bo,.string te,.bool en,.slice ad hn cap] 118)).alloc (.cells #[.string k',.string na',.int .i64 v',.int .i64 bo',.string te',.bool en',.slice ad2 hn' cap2] 118)) (p:=⟨w.1.size,6,none⟩) (v:=.slice ad hn cap) (box2_cell Zbv 6) Zc
 have z6:=subcell (W1:=(w.alloc (.cells #[.string k,.string na,.int .i64 v,.int .i64 bo,.string te,.bool en,.slice ad hn cap] 118)).alloc (.cells #[.string k',.string na',.int .i64 v',.int .i64 bo',.string te',.bool en',.slice ad2 hn' cap2] 118)) (p:=⟨w.1.size+1,6,none⟩) (v:=.slice ad2 hn' cap2) Zd Zd
 have hu1:∀ u:GW ((w.alloc (.cells #[.string k,.string na,.int .i64 v,.int .i64 bo,.string te,.bool en,.slice ad hn cap] 118)).alloc (.cells #[.string k',.string na',.int .i64 v',.int .i64 bo',.string te',.bool en',.slice ad2 hn' cap2] 118)),StrsIn u.val lo hi ad hn hs:=fun u=>hc.below (((below_alloc' _ _).alloc Zd _).trans (u.prop.mono Zc)) hhi
 have hu2:∀ u:GW ((w.alloc (.cells #[.string k,.string na,.int .i64 v,.int .i64 bo,.string te,.bool en,.slice ad hn cap] 118)).alloc (.cells #[.string k',.string na',.int .i64 v',.int .i64 bo',.string te',.bool en',.slice ad2 hn' cap2] 118)),StrsIn u.val lo hi ad2 hn' hs':=fun u=>hc2.below (((below_alloc' _ _).alloc Zd _).trans (u.prop.mono Zc)) hhi
 refine wp_region_grow Zf Zf ?_
 repeat (go_big_quiet_step ((first|(go_at_call 139;first|exact grow_of (keyOf_any ⟨k,na,v,bo,te,en,hn,hs⟩ ad cap _)|exact grow_of (keyOf_any ⟨k',na',v',bo',te',en',hn',hs'⟩ ad2 cap2 _))|(go_at_call 180;exact grow_of ((slicesEq_any hn hn' hs hs' ad ad2 cap cap2 _ lo hi lo hi hx hz (hu1 _) (hu2 _)).mono (fun e w' h=>⟨h.1,Zam⟩))))))
 refine wpQuiet_nil ?_
 rintro w2 ⟨u,hu⟩
 have hw2:Below ((w.alloc (.cells #[.string k,.string na,.int .i64 v,.int .i64 bo,.string te,.bool en,.slice ad hn cap] 118)).alloc (.cells #[.string k',.string na',.int .i64 v',.int .i64 bo',.string te',.bool en',.slice ad2 hn' cap2] 118)).1.size ((w.alloc (.cells #[.string k,.string na,.int .i64 v,.int .i64 bo,.string te,.bool en,.slice ad hn cap] 118)).alloc (.cells #[.string k',.string na',.int .i64 v',.int .i64 bo',.string te',.bool en',.slice ad2 hn' cap2] 118)) w2:=hu▸u.prop
 exact apP180
theorem sameOb_na (k:ByteArray) (na na':ByteArray) (v v':Int) (bo bo':Int) (te te':ByteArray) (en en':Bool) (hn hn':Nat) (hs hs':Nat→ByteArray) (ad ad2:Option Addr) (cap cap2:Nat) (w:World) (lo hi:Nat) (hhi:hi≤w.1.size) (_hx:(hn:Int)≤140737488355328) (_hz:(hn':Int)≤140737488355328) (hc:StrsIn w lo hi ad hn hs) (hc2:StrsIn w lo hi ad2 hn' hs') (hq:¬na=na') :
  Calls Tryz.prog 143 #[.agg #[.string k,.string na,.int .i64 v,.int .i64 bo,.string te,.bool en,.slice ad hn cap],.agg #[.string k,.string na',.int .i64 v',.int .i64 bo',.string te',.bool en',.slice ad2 hn' cap2]] w fun e w'=>e=.returned (.bool (sameB ⟨k,na,v,bo,te,en,hn,hs⟩ ⟨k,na',v',bo',te',en',hn',hs'⟩))∧Below w.1.size w w':=by
 have HE:=hid (show sameB ⟨k,na,v,bo,te,en,hn,hs⟩ ⟨k,na',v',bo',te',en',hn',hs'⟩=false by simp [sameB,hq])
 have hd:(na.toList==na'.toList)=false:=beq_false hq
 clear hq
 go_enter Tryz.func143,Tryz.ntmps143
 go_wp2
 have hne:Nonempty (GW ((w.alloc (.cells #[.string k,.string na,.int .i64 v,.int .i64 bo,.string te,.bool en,.slice ad hn cap] 118)).alloc (.cells #[.string k,.string na',.int .i64 v',.int .i64 bo',.string te',.bool en',.slice ad2 hn' cap2] 118))):=⟨⟨_,Below.refl _ _⟩⟩
 have x0:=subcell (W1:=(w.alloc (.cells #[.string k,.string na,.int .i64 v,.int .i64 bo,.string te,.bool en,.slice ad hn cap] 118)).alloc (.cells #[.string k,.string na',.int .i64 v',.int .i64 bo',.string te',.bool en',.slice ad2 hn' cap2] 118)) (p:=⟨w.1.size,0,none⟩) (v:=.string k) (box2_cell Zbv 0) Zc
 have z0:=subcell (W1:=(w.alloc (.cells #[.string k,.string na,.int .i64 v,.int .i64 bo,.string te,.bool en,.slice ad hn cap] 118)).alloc (.cells #[.string k,.string na',.int .i64 v',.int .i64 bo',.string te',.bool en',.slice ad2 hn' cap2] 118)) (p:=⟨w.1.size+1,0,none⟩) (v:=.string k) Zd Zd
 have x1:=subcell (W1:=(w.alloc (.cells #[.string k,.string na,.int .i64 v,.int .i64 bo,.string te,.bool en,.slice ad hn cap] 118)).alloc (.cells #[.string k,.string na',.int .i64 v',.int .i64 bo',.string te',.bool en',.slice ad2 hn' cap2] 118)) (p:=⟨w.1.size,1,none⟩) (v:=.string na) (box2_cell Zbv 1) Zc
 have z1:=subcell (W1:=(w.alloc (.cells #[.string k,.string na,.int .i64 v,.int .i64 bo,.string te,.bool en,.slice ad hn cap] 118)).alloc (.cells #[.string k,.string na',.int .i64 v',.int .i64 bo',.string te',.bool en',.slice ad2 hn' cap2] 118)) (p:=⟨w.1.size+1,1,none⟩) (v:=.string na') Zd Zd
 have x2:=subcell (W1:=(w.alloc (.cells #[.string k,.string na,.int .i64 v,.int .i64 bo,.string te,.bool en,.slice ad hn cap] 118)).alloc (.cells #[.string k,.string na',.int .i64 v',.int .i64 bo',.string te',.bool en',.slice ad2 hn' cap2] 118)) (p:=⟨w.1.size,2,none⟩) (v:=.int .i64 v) (box2_cell Zbv 2) Zc
 have z2:=subcell (W1:=(w.alloc (.cells #[.string k,.string na,.int .i64 v,.int .i64 bo,.string te,.bool en,.slice ad hn cap] 118)).alloc (.cells #[.string k,.string na',.int .i64 v',.int .i64 bo',.string te',.bool en',.slice ad2 hn' cap2] 118)) (p:=⟨w.1.size+1,2,none⟩) (v:=.int .i64 v') Zd Zd
 have x3:=subcell (W1:=(w.alloc (.cells #[.string k,.string na,.int .i64 v,.int .i64 bo,.string te,.bool en,.slice ad hn cap] 118)).alloc (.cells #[.string k,.string na',.int .i64 v',.int .i64 bo',.string te',.bool en',.slice ad2 hn' cap2] 118)) (p:=⟨w.1.size,3,none⟩) (v:=.int .i64 bo) (box2_cell Zbv 3) Zc
 have z3:=subcell (W1:=(w.alloc (.cells #[.string k,.string na,.int .i64 v,.int .i64 bo,.string te,.bool en,.slice ad hn cap] 118)).alloc (.cells #[.string k,.string na',.int .i64 v',.int .i64 bo',.string te',.bool en',.slice ad2 hn' cap2] 118)) (p:=⟨w.1.size+1,3,none⟩) (v:=.int .i64 bo') Zd Zd
 have x4:=subcell (W1:=(w.alloc (.cells #[.string k,.string na,.int .i64 v,.int .i64 bo,.string te,.bool en,.slice ad hn cap] 118)).alloc (.cells #[.string k,.string na',.int .i64 v',.int .i64 bo',.string te',.bool en',.slice ad2 hn' cap2] 118)) (p:=⟨w.1.size,4,none⟩) (v:=.string te) (box2_cell Zbv 4) Zc
 have z4:=subcell (W1:=(w.alloc (.cells #[.string k,.string na,.int .i64 v,.int .i64 bo,.string te,.bool en,.slice ad hn cap] 118)).alloc (.cells #[.string k,.string na',.int .i64 v',.int .i64 bo',.string te',.bool en',.slice ad2 hn' cap2] 118)) (p:=⟨w.1.size+1,4,none⟩) (v:=.string te') Zd Zd
 have x5:=subcell (W1:=(w.alloc (.cells #[.string k,.string na,.int .i64 v,.int .i64 bo,.string te,.bool en,.slice ad hn cap] 118)).alloc (.cells #[.string k,.string na',.int .i64 v',.int .i64 bo',.string te',.bool en',.slice ad2 hn' cap2] 118)) (p:=⟨w.1.size,5,none⟩) (v:=.bool en) (box2_cell Zbv 5) Zc
 have z5:=subcell (W1:=(w.alloc (.cells #[.string k,.string na,.int .i64 v,.int .i64 bo,.string te,.bool en,.slice ad hn cap] 118)).alloc (.cells #[.string k,.string na',.int .i64 v',.int .i64 bo',.string te',.bool en',.slice ad2 hn' cap2] 118)) (p:=⟨w.1.size+1,5,none⟩) (v:=.bool en') Zd Zd
 have x6:=subcell (W1:=(w.alloc (.cells #[.string k,.string na,.int .i64 v,.int .i64 bo,.string te,.bool en,.slice ad hn cap] 118)).alloc (.cells #[.string k,.string na',.int .i64 v',.int .i64 bo',.string te',.bool en',.slice ad2 hn' cap2] 118)) (p:=⟨w.1.size,6,none⟩) (v:=.slice ad hn cap) (box2_cell Zbv 6) Zc
 have z6:=subcell (W1:=(w.alloc (.cells #[.string k,.string na,.int .i64 v,.int .i64 bo,.string te,.bool en,.slice ad hn cap] 118)).alloc (.cells #[.string k,.string na',.int .i64 v',.int .i64 bo',.string te',.bool en',.slice ad2 hn' cap2] 118)) (p:=⟨w.1.size+1,6,none⟩) (v:=.slice ad2 hn' cap2) Zd Zd
 have hu1:∀ u:GW ((w.alloc (.cells #[.string k,.string na,.int .i64 v,.int .i64 bo,.string te,.bool en,.slice ad hn cap] 118)).alloc (.cells #[.string k,.string na',.int .i64 v',.int .i64 bo',.string te',.bool en',.slice ad2 hn' cap2] 118)),StrsIn u.val lo hi ad hn hs:=fun u=>hc.below (((below_alloc' _ _).alloc Zd _).trans (u.prop.mono Zc)) hhi
 have hu2:∀ u:GW ((w.alloc (.cells #[.string k,.string na,.int .i64 v,.int .i64 bo,.string te,.bool en,.slice ad hn cap] 118)).alloc (.cells #[.string k,.string na',.int .i64 v',.int .i64 bo',.string te',.bool en',.slice ad2 hn' cap2] 118)),StrsIn u.val lo hi ad2 hn' hs':=fun u=>hc2.below (((below_alloc' _ _).alloc Zd _).trans (u.prop.mono Zc)) hhi
 refine wp_region_grow Zf Zf ?_
 repeat (go_big_quiet_step ((first|(go_at_call 139;first|exact grow_of (keyOf_any ⟨k,na,v,bo,te,en,hn,hs⟩ ad cap _)|exact grow_of (keyOf_any ⟨k,na',v',bo',te',en',hn',hs'⟩ ad2 cap2 _))|(go_at_call 180;exact grow_of ((slicesEq_any hn hn' hs hs' ad ad2 cap cap2 _ lo hi lo hi hx hz (hu1 _) (hu2 _)).mono (fun e w' h=>⟨h.1,Zam⟩))))))
 refine wpQuiet_nil ?_
 rintro w2 ⟨u,hu⟩
 have hw2:Below ((w.alloc (.cells #[.string k,.string na,.int .i64 v,.int .i64 bo,.string te,.bool en,.slice ad hn cap] 118)).alloc (.cells #[.string k,.string na',.int .i64 v',.int .i64 bo',.string te',.bool en',.slice ad2 hn' cap2] 118)).1.size ((w.alloc (.cells #[.string k,.string na,.int .i64 v,.int .i64 bo,.string te,.bool en,.slice ad hn cap] 118)).alloc (.cells #[.string k,.string na',.int .i64 v',.int .i64 bo',.string te',.bool en',.slice ad2 hn' cap2] 118)) w2:=hu▸u.prop
 exact apP180
theorem sameOb_v (k:ByteArray) (na:ByteArray) (v v':Int) (bo bo':Int) (te te':ByteArray) (en en':Bool) (hn hn':Nat) (hs hs':Nat→ByteArray) (ad ad2:Option Addr) (cap cap2:Nat) (w:World) (lo hi:Nat) (hhi:hi≤w.1.size) (_hx:(hn:Int)≤140737488355328) (_hz:(hn':Int)≤140737488355328) (hc:StrsIn w lo hi ad hn hs) (hc2:StrsIn w lo hi ad2 hn' hs') (hq:¬v=v') :
  Calls Tryz.prog 143 #[.agg #[.string k,.string na,.int .i64 v,.int .i64 bo,.string te,.bool en,.slice ad hn cap],.agg #[.string k,.string na,.int .i64 v',.int .i64 bo',.string te',.bool en',.slice ad2 hn' cap2]] w fun e w'=>e=.returned (.bool (sameB ⟨k,na,v,bo,te,en,hn,hs⟩ ⟨k,na,v',bo',te',en',hn',hs'⟩))∧Below w.1.size w w':=by
 have HE:=hid (show sameB ⟨k,na,v,bo,te,en,hn,hs⟩ ⟨k,na,v',bo',te',en',hn',hs'⟩=false by simp [sameB,hq])
 have hd:(v==v')=false:=by simpa using hq
 go_enter Tryz.func143,Tryz.ntmps143
 go_wp2
 have hne:Nonempty (GW ((w.alloc (.cells #[.string k,.string na,.int .i64 v,.int .i64 bo,.string te,.bool en,.slice ad hn cap] 118)).alloc (.cells #[.string k,.string na,.int .i64 v',.int .i64 bo',.string te',.bool en',.slice ad2 hn' cap2] 118))):=⟨⟨_,Below.refl _ _⟩⟩
 have x0:=subcell (W1:=(w.alloc (.cells #[.string k,.string na,.int .i64 v,.int .i64 bo,.string te,.bool en,.slice ad hn cap] 118)).alloc (.cells #[.string k,.string na,.int .i64 v',.int .i64 bo',.string te',.bool en',.slice ad2 hn' cap2] 118)) (p:=⟨w.1.size,0,none⟩) (v:=.string k) (box2_cell Zbv 0) Zc
 have z0:=subcell (W1:=(w.alloc (.cells #[.string k,.string na,.int .i64 v,.int .i64 bo,.string te,.bool en,.slice ad hn cap] 118)).alloc (.cells #[.string k,.string na,.int .i64 v',.int .i64 bo',.string te',.bool en',.slice ad2 hn' cap2] 118)) (p:=⟨w.1.size+1,0,none⟩) (v:=.string k) Zd Zd
 have x1:=subcell (W1:=(w.alloc (.cells #[.string k,.string na,.int .i64 v,.int .i64 bo,.string te,.bool en,.slice ad hn cap] 118)).alloc (.cells #[.string k,.string na,.int .i64 v',.int .i64 bo',.string te',.bool en',.slice ad2 hn' cap2] 118)) (p:=⟨w.1.size,1,none⟩) (v:=.string na) (box2_cell Zbv 1) Zc
 have z1:=subcell (W1:=(w.alloc (.cells #[.string k,.string na,.int .i64 v,.int .i64 bo,.string te,.bool en,.slice ad hn cap] 118)).alloc (.cells #[.string k,.string na,.int .i64 v',.int .i64 bo',.string te',.bool en',.slice ad2 hn' cap2] 118)) (p:=⟨w.1.size+1,1,none⟩) (v:=.string na) Zd Zd
 have x2:=subcell (W1:=(w.alloc (.cells #[.string k,.string na,.int .i64 v,.int .i64 bo,.string te,.bool en,.slice ad hn cap] 118)).alloc (.cells #[.string k,.string na,.int .i64 v',.int .i64 bo',.string te',.bool en',.slice ad2 hn' cap2] 118)) (p:=⟨w.1.size,2,none⟩) (v:=.int .i64 v) (box2_cell Zbv 2) Zc
 have z2:=subcell (W1:=(w.alloc (.cells #[.string k,.string na,.int .i64 v,.int .i64 bo,.string te,.bool en,.slice ad hn cap] 118)).alloc (.cells #[.string k,.string na,.int .i64 v',.int .i64 bo',.string te',.bool en',.slice ad2 hn' cap2] 118)) (p:=⟨w.1.size+1,2,none⟩) (v:=.int .i64 v') Zd Zd
 have x3:=subcell (W1:=(w.alloc (.cells #[.string k,.string na,.int .i64 v,.int .i64 bo,.string te,.bool en,.slice ad hn cap] 118)).alloc (.cells #[.string k,.string na,.int .i64 v',.int .i64 bo',.string te',.bool en',.slice ad2 hn' cap2] 118)) (p:=⟨w.1.size,3,none⟩) (v:=.int .i64 bo) (box2_cell Zbv 3) Zc
 have z3:=subcell (W1:=(w.alloc (.cells #[.string k,.string na,.int .i64 v,.int .i64 bo,.string te,.bool en,.slice ad hn cap] 118)).alloc (.cells #[.string k,.string na,.int .i64 v',.int .i64 bo',.string te',.bool en',.slice ad2 hn' cap2] 118)) (p:=⟨w.1.size+1,3,none⟩) (v:=.int .i64 bo') Zd Zd
 have x4:=subcell (W1:=(w.alloc (.cells #[.string k,.string na,.int .i64 v,.int .i64 bo,.string te,.bool en,.slice ad hn cap] 118)).alloc (.cells #[.string k,.string na,.int .i64 v',.int .i64 bo',.string te',.bool en',.slice ad2 hn' cap2] 118)) (p:=⟨w.1.size,4,none⟩) (v:=.string te) (box2_cell Zbv 4) Zc
 have z4:=subcell (W1:=(w.alloc (.cells #[.string k,.string na,.int .i64 v,.int .i64 bo,.string te,.bool en,.slice ad hn cap] 118)).alloc (.cells #[.string k,.string na,.int .i64 v',.int .i64 bo',.string te',.bool en',.slice ad2 hn' cap2] 118)) (p:=⟨w.1.size+1,4,none⟩) (v:=.string te') Zd Zd
 have x5:=subcell (W1:=(w.alloc (.cells #[.string k,.string na,.int .i64 v,.int .i64 bo,.string te,.bool en,.slice ad hn cap] 118)).alloc (.cells #[.string k,.string na,.int .i64 v',.int .i64 bo',.string te',.bool en',.slice ad2 hn' cap2] 118)) (p:=⟨w.1.size,5,none⟩) (v:=.bool en) (box2_cell Zbv 5) Zc
 have z5:=subcell (W1:=(w.alloc (.cells #[.string k,.string na,.int .i64 v,.int .i64 bo,.string te,.bool en,.slice ad hn cap] 118)).alloc (.cells #[.string k,.string na,.int .i64 v',.int .i64 bo',.string te',.bool en',.slice ad2 hn' cap2] 118)) (p:=⟨w.1.size+1,5,none⟩) (v:=.bool en') Zd Zd
 have x6:=subcell (W1:=(w.alloc (.cells #[.string k,.string na,.int .i64 v,.int .i64 bo,.string te,.bool en,.slice ad hn cap] 118)).alloc (.cells #[.string k,.string na,.int .i64 v',.int .i64 bo',.string te',.bool en',.slice ad2 hn' cap2] 118)) (p:=⟨w.1.size,6,none⟩) (v:=.slice ad hn cap) (box2_cell Zbv 6) Zc
 have z6:=subcell (W1:=(w.alloc (.cells #[.string k,.string na,.int .i64 v,.int .i64 bo,.string te,.bool en,.slice ad hn cap] 118)).alloc (.cells #[.string k,.string na,.int .i64 v',.int .i64 bo',.string te',.bool en',.slice ad2 hn' cap2] 118)) (p:=⟨w.1.size+1,6,none⟩) (v:=.slice ad2 hn' cap2) Zd Zd
 have hu1:∀ u:GW ((w.alloc (.cells #[.string k,.string na,.int .i64 v,.int .i64 bo,.string te,.bool en,.slice ad hn cap] 118)).alloc (.cells #[.string k,.string na,.int .i64 v',.int .i64 bo',.string te',.bool en',.slice ad2 hn' cap2] 118)),StrsIn u.val lo hi ad hn hs:=fun u=>hc.below (((below_alloc' _ _).alloc Zd _).trans (u.prop.mono Zc)) hhi
 have hu2:∀ u:GW ((w.alloc (.cells #[.string k,.string na,.int .i64 v,.int .i64 bo,.string te,.bool en,.slice ad hn cap] 118)).alloc (.cells #[.string k,.string na,.int .i64 v',.int .i64 bo',.string te',.bool en',.slice ad2 hn' cap2] 118)),StrsIn u.val lo hi ad2 hn' hs':=fun u=>hc2.below (((below_alloc' _ _).alloc Zd _).trans (u.prop.mono Zc)) hhi
 refine wp_region_grow Zf Zf ?_
 repeat (go_big_quiet_step ((first|(go_at_call 139;first|exact grow_of (keyOf_any ⟨k,na,v,bo,te,en,hn,hs⟩ ad cap _)|exact grow_of (keyOf_any ⟨k,na,v',bo',te',en',hn',hs'⟩ ad2 cap2 _))|(go_at_call 180;exact grow_of ((slicesEq_any hn hn' hs hs' ad ad2 cap cap2 _ lo hi lo hi hx hz (hu1 _) (hu2 _)).mono (fun e w' h=>⟨h.1,Zam⟩))))))
 refine wpQuiet_nil ?_
 rintro w2 ⟨u,hu⟩
 have hw2:Below ((w.alloc (.cells #[.string k,.string na,.int .i64 v,.int .i64 bo,.string te,.bool en,.slice ad hn cap] 118)).alloc (.cells #[.string k,.string na,.int .i64 v',.int .i64 bo',.string te',.bool en',.slice ad2 hn' cap2] 118)).1.size ((w.alloc (.cells #[.string k,.string na,.int .i64 v,.int .i64 bo,.string te,.bool en,.slice ad hn cap] 118)).alloc (.cells #[.string k,.string na,.int .i64 v',.int .i64 bo',.string te',.bool en',.slice ad2 hn' cap2] 118)) w2:=hu▸u.prop
 exact apP180
theorem sameOb_bo (k:ByteArray) (na:ByteArray) (v:Int) (bo bo':Int) (te te':ByteArray) (en en':Bool) (hn hn':Nat) (hs hs':Nat→ByteArray) (ad ad2:Option Addr) (cap cap2:Nat) (w:World) (lo hi:Nat) (hhi:hi≤w.1.size) (_hx:(hn:Int)≤140737488355328) (_hz:(hn':Int)≤140737488355328) (hc:StrsIn w lo hi ad hn hs) (hc2:StrsIn w lo hi ad2 hn' hs') (hq:¬bo=bo') :
  Calls Tryz.prog 143 #[.agg #[.string k,.string na,.int .i64 v,.int .i64 bo,.string te,.bool en,.slice ad hn cap],.agg #[.string k,.string na,.int .i64 v,.int .i64 bo',.string te',.bool en',.slice ad2 hn' cap2]] w fun e w'=>e=.returned (.bool (sameB ⟨k,na,v,bo,te,en,hn,hs⟩ ⟨k,na,v,bo',te',en',hn',hs'⟩))∧Below w.1.size w w':=by
 have HE:=hid (show sameB ⟨k,na,v,bo,te,en,hn,hs⟩ ⟨k,na,v,bo',te',en',hn',hs'⟩=false by simp [sameB,hq])
 have hd:(bo==bo')=false:=by simpa using hq
 go_enter Tryz.func143,Tryz.ntmps143
 go_wp2
 have hne:Nonempty (GW ((w.alloc (.cells #[.string k,.string na,.int .i64 v,.int .i64 bo,.string te,.bool en,.slice ad hn cap] 118)).alloc (.cells #[.string k,.string na,.int .i64 v,.int .i64 bo',.string te',.bool en',.slice ad2 hn' cap2] 118))):=⟨⟨_,Below.refl _ _⟩⟩
 have x0:=subcell (W1:=(w.alloc (.cells #[.string k,.string na,.int .i64 v,.int .i64 bo,.string te,.bool en,.slice ad hn cap] 118)).alloc (.cells #[.string k,.string na,.int .i64 v,.int .i64 bo',.string te',.bool en',.slice ad2 hn' cap2] 118)) (p:=⟨w.1.size,0,none⟩) (v:=.string k) (box2_cell Zbv 0) Zc
 have z0:=subcell (W1:=(w.alloc (.cells #[.string k,.string na,.int .i64 v,.int .i64 bo,.string te,.bool en,.slice ad hn cap] 118)).alloc (.cells #[.string k,.string na,.int .i64 v,.int .i64 bo',.string te',.bool en',.slice ad2 hn' cap2] 118)) (p:=⟨w.1.size+1,0,none⟩) (v:=.string k) Zd Zd
 have x1:=subcell (W1:=(w.alloc (.cells #[.string k,.string na,.int .i64 v,.int .i64 bo,.string te,.bool en,.slice ad hn cap] 118)).alloc (.cells #[.string k,.string na,.int .i64 v,.int .i64 bo',.string te',.bool en',.slice ad2 hn' cap2] 118)) (p:=⟨w.1.size,1,none⟩) (v:=.string na) (box2_cell Zbv 1) Zc
 have z1:=subcell (W1:=(w.alloc (.cells #[.string k,.string na,.int .i64 v,.int .i64 bo,.string te,.bool en,.slice ad hn cap] 118)).alloc (.cells #[.string k,.string na,.int .i64 v,.int .i64 bo',.string te',.bool en',.slice ad2 hn' cap2] 118)) (p:=⟨w.1.size+1,1,none⟩) (v:=.string na) Zd Zd
 have x2:=subcell (W1:=(w.alloc (.cells #[.string k,.string na,.int .i64 v,.int .i64 bo,.string te,.bool en,.slice ad hn cap] 118)).alloc (.cells #[.string k,.string na,.int .i64 v,.int .i64 bo',.string te',.bool en',.slice ad2 hn' cap2] 118)) (p:=⟨w.1.size,2,none⟩) (v:=.int .i64 v) (box2_cell Zbv 2) Zc
 have z2:=subcell (W1:=(w.alloc (.cells #[.string k,.string na,.int .i64 v,.int .i64 bo,.string te,.bool en,.slice ad hn cap] 118)).alloc (.cells #[.string k,.string na,.int .i64 v,.int .i64 bo',.string te',.bool en',.slice ad2 hn' cap2] 118)) (p:=⟨w.1.size+1,2,none⟩) (v:=.int .i64 v) Zd Zd
 have x3:=subcell (W1:=(w.alloc (.cells #[.string k,.string na,.int .i64 v,.int .i64 bo,.string te,.bool en,.slice ad hn cap] 118)).alloc (.cells #[.string k,.string na,.int .i64 v,.int .i64 bo',.string te',.bool en',.slice ad2 hn' cap2] 118)) (p:=⟨w.1.size,3,none⟩) (v:=.int .i64 bo) (box2_cell Zbv 3) Zc
 have z3:=subcell (W1:=(w.alloc (.cells #[.string k,.string na,.int .i64 v,.int .i64 bo,.string te,.bool en,.slice ad hn cap] 118)).alloc (.cells #[.string k,.string na,.int .i64 v,.int .i64 bo',.string te',.bool en',.slice ad2 hn' cap2] 118)) (p:=⟨w.1.size+1,3,none⟩) (v:=.int .i64 bo') Zd Zd
 have x4:=subcell (W1:=(w.alloc (.cells #[.string k,.string na,.int .i64 v,.int .i64 bo,.string te,.bool en,.slice ad hn cap] 118)).alloc (.cells #[.string k,.string na,.int .i64 v,.int .i64 bo',.string te',.bool en',.slice ad2 hn' cap2] 118)) (p:=⟨w.1.size,4,none⟩) (v:=.string te) (box2_cell Zbv 4) Zc
 have z4:=subcell (W1:=(w.alloc (.cells #[.string k,.string na,.int .i64 v,.int .i64 bo,.string te,.bool en,.slice ad hn cap] 118)).alloc (.cells #[.string k,.string na,.int .i64 v,.int .i64 bo',.string te',.bool en',.slice ad2 hn' cap2] 118)) (p:=⟨w.1.size+1,4,none⟩) (v:=.string te') Zd Zd
 have x5:=subcell (W1:=(w.alloc (.cells #[.string k,.string na,.int .i64 v,.int .i64 bo,.string te,.bool en,.slice ad hn cap] 118)).alloc (.cells #[.string k,.string na,.int .i64 v,.int .i64 bo',.string te',.bool en',.slice ad2 hn' cap2] 118)) (p:=⟨w.1.size,5,none⟩) (v:=.bool en) (box2_cell Zbv 5) Zc
 have z5:=subcell (W1:=(w.alloc (.cells #[.string k,.string na,.int .i64 v,.int .i64 bo,.string te,.bool en,.slice ad hn cap] 118)).alloc (.cells #[.string k,.string na,.int .i64 v,.int .i64 bo',.string te',.bool en',.slice ad2 hn' cap2] 118)) (p:=⟨w.1.size+1,5,none⟩) (v:=.bool en') Zd Zd
 have x6:=subcell (W1:=(w.alloc (.cells #[.string k,.string na,.int .i64 v,.int .i64 bo,.string te,.bool en,.slice ad hn cap] 118)).alloc (.cells #[.string k,.string na,.int .i64 v,.int .i64 bo',.string te',.bool en',.slice ad2 hn' cap2] 118)) (p:=⟨w.1.size,6,none⟩) (v:=.slice ad hn cap) (box2_cell Zbv 6) Zc
 have z6:=subcell (W1:=(w.alloc (.cells #[.string k,.string na,.int .i64 v,.int .i64 bo,.string te,.bool en,.slice ad hn cap] 118)).alloc (.cells #[.string k,.string na,.int .i64 v,.int .i64 bo',.string te',.bool en',.slice ad2 hn' cap2] 118)) (p:=⟨w.1.size+1,6,none⟩) (v:=.slice ad2 hn' cap2) Zd Zd
 have hu1:∀ u:GW ((w.alloc (.cells #[.string k,.string na,.int .i64 v,.int .i64 bo,.string te,.bool en,.slice ad hn cap] 118)).alloc (.cells #[.string k,.string na,.int .i64 v,.int .i64 bo',.string te',.bool en',.slice ad2 hn' cap2] 118)),StrsIn u.val lo hi ad hn hs:=fun u=>hc.below (((below_alloc' _ _).alloc Zd _).trans (u.prop.mono Zc)) hhi
 have hu2:∀ u:GW ((w.alloc (.cells #[.string k,.string na,.int .i64 v,.int .i64 bo,.string te,.bool en,.slice ad hn cap] 118)).alloc (.cells #[.string k,.string na,.int .i64 v,.int .i64 bo',.string te',.bool en',.slice ad2 hn' cap2] 118)),StrsIn u.val lo hi ad2 hn' hs':=fun u=>hc2.below (((below_alloc' _ _).alloc Zd _).trans (u.prop.mono Zc)) hhi
 refine wp_region_grow Zf Zf ?_
 repeat (go_big_quiet_step ((first|(go_at_call 139;first|exact grow_of (keyOf_any ⟨k,na,v,bo,te,en,hn,hs⟩ ad cap _)|exact grow_of (keyOf_any ⟨k,na,v,bo',te',en',hn',hs'⟩ ad2 cap2 _))|(go_at_call 180;exact grow_of ((slicesEq_any hn hn' hs hs' ad ad2 cap cap2 _ lo hi lo hi hx hz (hu1 _) (hu2 _)).mono (fun e w' h=>⟨h.1,Zam⟩))))))
 refine wpQuiet_nil ?_
 rintro w2 ⟨u,hu⟩
 have hw2:Below ((w.alloc (.cells #[.string k,.string na,.int .i64 v,.int .i64 bo,.string te,.bool en,.slice ad hn cap] 118)).alloc (.cells #[.string k,.string na,.int .i64 v,.int .i64 bo',.string te',.bool en',.slice ad2 hn' cap2] 118)).1.size ((w.alloc (.cells #[.string k,.string na,.int .i64 v,.int .i64 bo,.string te,.bool en,.slice ad hn cap] 118)).alloc (.cells #[.string k,.string na,.int .i64 v,.int .i64 bo',.string te',.bool en',.slice ad2 hn' cap2] 118)) w2:=hu▸u.prop
 exact apP180
theorem sameOb_te (k:ByteArray) (na:ByteArray) (v:Int) (bo:Int) (te te':ByteArray) (en en':Bool) (hn hn':Nat) (hs hs':Nat→ByteArray) (ad ad2:Option Addr) (cap cap2:Nat) (w:World) (lo hi:Nat) (hhi:hi≤w.1.size) (_hx:(hn:Int)≤140737488355328) (_hz:(hn':Int)≤140737488355328) (hc:StrsIn w lo hi ad hn hs) (hc2:StrsIn w lo hi ad2 hn' hs') (hq:¬te=te') :
  Calls Tryz.prog 143 #[.agg #[.string k,.string na,.int .i64 v,.int .i64 bo,.string te,.bool en,.slice ad hn cap],.agg #[.string k,.string na,.int .i64 v,.int .i64 bo,.string te',.bool en',.slice ad2 hn' cap2]] w fun e w'=>e=.returned (.bool (sameB ⟨k,na,v,bo,te,en,hn,hs⟩ ⟨k,na,v,bo,te',en',hn',hs'⟩))∧Below w.1.size w w':=by
 have HE:=hid (show sameB ⟨k,na,v,bo,te,en,hn,hs⟩ ⟨k,na,v,bo,te',en',hn',hs'⟩=false by simp [sameB,hq])
 have hd:(te.toList==te'.toList)=false:=beq_false hq
 clear hq
 go_enter Tryz.func143,Tryz.ntmps143
 go_wp2
 have hne:Nonempty (GW ((w.alloc (.cells #[.string k,.string na,.int .i64 v,.int .i64 bo,.string te,.bool en,.slice ad hn cap] 118)).alloc (.cells #[.string k,.string na,.int .i64 v,.int .i64 bo,.string te',.bool en',.slice ad2 hn' cap2] 118))):=⟨⟨_,Below.refl _ _⟩⟩
 have x0:=subcell (W1:=(w.alloc (.cells #[.string k,.string na,.int .i64 v,.int .i64 bo,.string te,.bool en,.slice ad hn cap] 118)).alloc (.cells #[.string k,.string na,.int .i64 v,.int .i64 bo,.string te',.bool en',.slice ad2 hn' cap2] 118)) (p:=⟨w.1.size,0,none⟩) (v:=.string k) (box2_cell Zbv 0) Zc
 have z0:=subcell (W1:=(w.alloc (.cells #[.string k,.string na,.int .i64 v,.int .i64 bo,.string te,.bool en,.slice ad hn cap] 118)).alloc (.cells #[.string k,.string na,.int .i64 v,.int .i64 bo,.string te',.bool en',.slice ad2 hn' cap2] 118)) (p:=⟨w.1.size+1,0,none⟩) (v:=.string k) Zd Zd
 have x1:=subcell (W1:=(w.alloc (.cells #[.string k,.string na,.int .i64 v,.int .i64 bo,.string te,.bool en,.slice ad hn cap] 118)).alloc (.cells #[.string k,.string na,.int .i64 v,.int .i64 bo,.string te',.bool en',.slice ad2 hn' cap2] 118)) (p:=⟨w.1.size,1,none⟩) (v:=.string na) (box2_cell Zbv 1) Zc
 have z1:=subcell (W1:=(w.alloc (.cells #[.string k,.string na,.int .i64 v,.int .i64 bo,.string te,.bool en,.slice ad hn cap] 118)).alloc (.cells #[.string k,.string na,.int .i64 v,.int .i64 bo,.string te',.bool en',.slice ad2 hn' cap2] 118)) (p:=⟨w.1.size+1,1,none⟩) (v:=.string na) Zd Zd
 have x2:=subcell (W1:=(w.alloc (.cells #[.string k,.string na,.int .i64 v,.int .i64 bo,.string te,.bool en,.slice ad hn cap] 118)).alloc (.cells #[.string k,.string na,.int .i64 v,.int .i64 bo,.string te',.bool en',.slice ad2 hn' cap2] 118)) (p:=⟨w.1.size,2,none⟩) (v:=.int .i64 v) (box2_cell Zbv 2) Zc
 have z2:=subcell (W1:=(w.alloc (.cells #[.string k,.string na,.int .i64 v,.int .i64 bo,.string te,.bool en,.slice ad hn cap] 118)).alloc (.cells #[.string k,.string na,.int .i64 v,.int .i64 bo,.string te',.bool en',.slice ad2 hn' cap2] 118)) (p:=⟨w.1.size+1,2,none⟩) (v:=.int .i64 v) Zd Zd
 have x3:=subcell (W1:=(w.alloc (.cells #[.string k,.string na,.int .i64 v,.int .i64 bo,.string te,.bool en,.slice ad hn cap] 118)).alloc (.cells #[.string k,.string na,.int .i64 v,.int .i64 bo,.string te',.bool en',.slice ad2 hn' cap2] 118)) (p:=⟨w.1.size,3,none⟩) (v:=.int .i64 bo) (box2_cell Zbv 3) Zc
 have z3:=subcell (W1:=(w.alloc (.cells #[.string k,.string na,.int .i64 v,.int .i64 bo,.string te,.bool en,.slice ad hn cap] 118)).alloc (.cells #[.string k,.string na,.int .i64 v,.int .i64 bo,.string te',.bool en',.slice ad2 hn' cap2] 118)) (p:=⟨w.1.size+1,3,none⟩) (v:=.int .i64 bo) Zd Zd
 have x4:=subcell (W1:=(w.alloc (.cells #[.string k,.string na,.int .i64 v,.int .i64 bo,.string te,.bool en,.slice ad hn cap] 118)).alloc (.cells #[.string k,.string na,.int .i64 v,.int .i64 bo,.string te',.bool en',.slice ad2 hn' cap2] 118)) (p:=⟨w.1.size,4,none⟩) (v:=.string te) (box2_cell Zbv 4) Zc
 have z4:=subcell (W1:=(w.alloc (.cells #[.string k,.string na,.int .i64 v,.int .i64 bo,.string te,.bool en,.slice ad hn cap] 118)).alloc (.cells #[.string k,.string na,.int .i64 v,.int .i64 bo,.string te',.bool en',.slice ad2 hn' cap2] 118)) (p:=⟨w.1.size+1,4,none⟩) (v:=.string te') Zd Zd
 have x5:=subcell (W1:=(w.alloc (.cells #[.string k,.string na,.int .i64 v,.int .i64 bo,.string te,.bool en,.slice ad hn cap] 118)).alloc (.cells #[.string k,.string na,.int .i64 v,.int .i64 bo,.string te',.bool en',.slice ad2 hn' cap2] 118)) (p:=⟨w.1.size,5,none⟩) (v:=.bool en) (box2_cell Zbv 5) Zc
 have z5:=subcell (W1:=(w.alloc (.cells #[.string k,.string na,.int .i64 v,.int .i64 bo,.string te,.bool en,.slice ad hn cap] 118)).alloc (.cells #[.string k,.string na,.int .i64 v,.int .i64 bo,.string te',.bool en',.slice ad2 hn' cap2] 118)) (p:=⟨w.1.size+1,5,none⟩) (v:=.bool en') Zd Zd
 have x6:=subcell (W1:=(w.alloc (.cells #[.string k,.string na,.int .i64 v,.int .i64 bo,.string te,.bool en,.slice ad hn cap] 118)).alloc (.cells #[.string k,.string na,.int .i64 v,.int .i64 bo,.string te',.bool en',.slice ad2 hn' cap2] 118)) (p:=⟨w.1.size,6,none⟩) (v:=.slice ad hn cap) (box2_cell Zbv 6) Zc
 have z6:=subcell (W1:=(w.alloc (.cells #[.string k,.string na,.int .i64 v,.int .i64 bo,.string te,.bool en,.slice ad hn cap] 118)).alloc (.cells #[.string k,.string na,.int .i64 v,.int .i64 bo,.string te',.bool en',.slice ad2 hn' cap2] 118)) (p:=⟨w.1.size+1,6,none⟩) (v:=.slice ad2 hn' cap2) Zd Zd
 have hu1:∀ u:GW ((w.alloc (.cells #[.string k,.string na,.int .i64 v,.int .i64 bo,.string te,.bool en,.slice ad hn cap] 118)).alloc (.cells #[.string k,.string na,.int .i64 v,.int .i64 bo,.string te',.bool en',.slice ad2 hn' cap2] 118)),StrsIn u.val lo hi ad hn hs:=fun u=>hc.below (((below_alloc' _ _).alloc Zd _).trans (u.prop.mono Zc)) hhi
 have hu2:∀ u:GW ((w.alloc (.cells #[.string k,.string na,.int .i64 v,.int .i64 bo,.string te,.bool en,.slice ad hn cap] 118)).alloc (.cells #[.string k,.string na,.int .i64 v,.int .i64 bo,.string te',.bool en',.slice ad2 hn' cap2] 118)),StrsIn u.val lo hi ad2 hn' hs':=fun u=>hc2.below (((below_alloc' _ _).alloc Zd _).trans (u.prop.mono Zc)) hhi
 refine wp_region_grow Zf Zf ?_
 repeat (go_big_quiet_step ((first|(go_at_call 139;first|exact grow_of (keyOf_any ⟨k,na,v,bo,te,en,hn,hs⟩ ad cap _)|exact grow_of (keyOf_any ⟨k,na,v,bo,te',en',hn',hs'⟩ ad2 cap2 _))|(go_at_call 180;exact grow_of ((slicesEq_any hn hn' hs hs' ad ad2 cap cap2 _ lo hi lo hi hx hz (hu1 _) (hu2 _)).mono (fun e w' h=>⟨h.1,Zam⟩))))))
 refine wpQuiet_nil ?_
 rintro w2 ⟨u,hu⟩
 have hw2:Below ((w.alloc (.cells #[.string k,.string na,.int .i64 v,.int .i64 bo,.string te,.bool en,.slice ad hn cap] 118)).alloc (.cells #[.string k,.string na,.int .i64 v,.int .i64 bo,.string te',.bool en',.slice ad2 hn' cap2] 118)).1.size ((w.alloc (.cells #[.string k,.string na,.int .i64 v,.int .i64 bo,.string te,.bool en,.slice ad hn cap] 118)).alloc (.cells #[.string k,.string na,.int .i64 v,.int .i64 bo,.string te',.bool en',.slice ad2 hn' cap2] 118)) w2:=hu▸u.prop
 exact apP180
theorem sameOb_en (k:ByteArray) (na:ByteArray) (v:Int) (bo:Int) (te:ByteArray) (en en':Bool) (hn hn':Nat) (hs hs':Nat→ByteArray) (ad ad2:Option Addr) (cap cap2:Nat) (w:World) (lo hi:Nat) (hhi:hi≤w.1.size) (_hx:(hn:Int)≤140737488355328) (_hz:(hn':Int)≤140737488355328) (hc:StrsIn w lo hi ad hn hs) (hc2:StrsIn w lo hi ad2 hn' hs') (hq:¬en=en') :
  Calls Tryz.prog 143 #[.agg #[.string k,.string na,.int .i64 v,.int .i64 bo,.string te,.bool en,.slice ad hn cap],.agg #[.string k,.string na,.int .i64 v,.int .i64 bo,.string te,.bool en',.slice ad2 hn' cap2]] w fun e w'=>e=.returned (.bool (sameB ⟨k,na,v,bo,te,en,hn,hs⟩ ⟨k,na,v,bo,te,en',hn',hs'⟩))∧Below w.1.size w w':=by
 have HE:=hid (show sameB ⟨k,na,v,bo,te,en,hn,hs⟩ ⟨k,na,v,bo,te,en',hn',hs'⟩=false by simp [sameB,hq])
 have hd:(en==en')=false:=by simpa using hq
 clear hq
 go_enter Tryz.func143,Tryz.ntmps143
 go_wp2
 have hne:Nonempty (GW ((w.alloc (.cells #[.string k,.string na,.int .i64 v,.int .i64 bo,.string te,.bool en,.slice ad hn cap] 118)).alloc (.cells #[.string k,.string na,.int .i64 v,.int .i64 bo,.string te,.bool en',.slice ad2 hn' cap2] 118))):=⟨⟨_,Below.refl _ _⟩⟩
 have x0:=subcell (W1:=(w.alloc (.cells #[.string k,.string na,.int .i64 v,.int .i64 bo,.string te,.bool en,.slice ad hn cap] 118)).alloc (.cells #[.string k,.string na,.int .i64 v,.int .i64 bo,.string te,.bool en',.slice ad2 hn' cap2] 118)) (p:=⟨w.1.size,0,none⟩) (v:=.string k) (box2_cell Zbv 0) Zc
 have z0:=subcell (W1:=(w.alloc (.cells #[.string k,.string na,.int .i64 v,.int .i64 bo,.string te,.bool en,.slice ad hn cap] 118)).alloc (.cells #[.string k,.string na,.int .i64 v,.int .i64 bo,.string te,.bool en',.slice ad2 hn' cap2] 118)) (p:=⟨w.1.size+1,0,none⟩) (v:=.string k) Zd Zd
 have x1:=subcell (W1:=(w.alloc (.cells #[.string k,.string na,.int .i64 v,.int .i64 bo,.string te,.bool en,.slice ad hn cap] 118)).alloc (.cells #[.string k,.string na,.int .i64 v,.int .i64 bo,.string te,.bool en',.slice ad2 hn' cap2] 118)) (p:=⟨w.1.size,1,none⟩) (v:=.string na) (box2_cell Zbv 1) Zc
 have z1:=subcell (W1:=(w.alloc (.cells #[.string k,.string na,.int .i64 v,.int .i64 bo,.string te,.bool en,.slice ad hn cap] 118)).alloc (.cells #[.string k,.string na,.int .i64 v,.int .i64 bo,.string te,.bool en',.slice ad2 hn' cap2] 118)) (p:=⟨w.1.size+1,1,none⟩) (v:=.string na) Zd Zd
 have x2:=subcell (W1:=(w.alloc (.cells #[.string k,.string na,.int .i64 v,.int .i64 bo,.string te,.bool en,.slice ad hn cap] 118)).alloc (.cells #[.string k,.string na,.int .i64 v,.int .i64 bo,.string te,.bool en',.slice ad2 hn' cap2] 118)) (p:=⟨w.1.size,2,none⟩) (v:=.int .i64 v) (box2_cell Zbv 2) Zc
 have z2:=subcell (W1:=(w.alloc (.cells #[.string k,.string na,.int .i64 v,.int .i64 bo,.string te,.bool en,.slice ad hn cap] 118)).alloc (.cells #[.string k,.string na,.int .i64 v,.int .i64 bo,.string te,.bool en',.slice ad2 hn' cap2] 118)) (p:=⟨w.1.size+1,2,none⟩) (v:=.int .i64 v) Zd Zd
 have x3:=subcell (W1:=(w.alloc (.cells #[.string k,.string na,.int .i64 v,.int .i64 bo,.string te,.bool en,.slice ad hn cap] 118)).alloc (.cells #[.string k,.string na,.int .i64 v,.int .i64 bo,.string te,.bool en',.slice ad2 hn' cap2] 118)) (p:=⟨w.1.size,3,none⟩) (v:=.int .i64 bo) (box2_cell Zbv 3) Zc
 have z3:=subcell (W1:=(w.alloc (.cells #[.string k,.string na,.int .i64 v,.int .i64 bo,.string te,.bool en,.slice ad hn cap] 118)).alloc (.cells #[.string k,.string na,.int .i64 v,.int .i64 bo,.string te,.bool en',.slice ad2 hn' cap2] 118)) (p:=⟨w.1.size+1,3,none⟩) (v:=.int .i64 bo) Zd Zd
 have x4:=subcell (W1:=(w.alloc (.cells #[.string k,.string na,.int .i64 v,.int .i64 bo,.string te,.bool en,.slice ad hn cap] 118)).alloc (.cells #[.string k,.string na,.int .i64 v,.int .i64 bo,.string te,.bool en',.slice ad2 hn' cap2] 118)) (p:=⟨w.1.size,4,none⟩) (v:=.string te) (box2_cell Zbv 4) Zc
 have z4:=subcell (W1:=(w.alloc (.cells #[.string k,.string na,.int .i64 v,.int .i64 bo,.string te,.bool en,.slice ad hn cap] 118)).alloc (.cells #[.string k,.string na,.int .i64 v,.int .i64 bo,.string te,.bool en',.slice ad2 hn' cap2] 118)) (p:=⟨w.1.size+1,4,none⟩) (v:=.string te) Zd Zd
 have x5:=subcell (W1:=(w.alloc (.cells #[.string k,.string na,.int .i64 v,.int .i64 bo,.string te,.bool en,.slice ad hn cap] 118)).alloc (.cells #[.string k,.string na,.int .i64 v,.int .i64 bo,.string te,.bool en',.slice ad2 hn' cap2] 118)) (p:=⟨w.1.size,5,none⟩) (v:=.bool en) (box2_cell Zbv 5) Zc
 have z5:=subcell (W1:=(w.alloc (.cells #[.string k,.string na,.int .i64 v,.int .i64 bo,.string te,.bool en,.slice ad hn cap] 118)).alloc (.cells #[.string k,.string na,.int .i64 v,.int .i64 bo,.string te,.bool en',.slice ad2 hn' cap2] 118)) (p:=⟨w.1.size+1,5,none⟩) (v:=.bool en') Zd Zd
 have x6:=subcell (W1:=(w.alloc (.cells #[.string k,.string na,.int .i64 v,.int .i64 bo,.string te,.bool en,.slice ad hn cap] 118)).alloc (.cells #[.string k,.string na,.int .i64 v,.int .i64 bo,.string te,.bool en',.slice ad2 hn' cap2] 118)) (p:=⟨w.1.size,6,none⟩) (v:=.slice ad hn cap) (box2_cell Zbv 6) Zc
 have z6:=subcell (W1:=(w.alloc (.cells #[.string k,.string na,.int .i64 v,.int .i64 bo,.string te,.bool en,.slice ad hn cap] 118)).alloc (.cells #[.string k,.string na,.int .i64 v,.int .i64 bo,.string te,.bool en',.slice ad2 hn' cap2] 118)) (p:=⟨w.1.size+1,6,none⟩) (v:=.slice ad2 hn' cap2) Zd Zd
 have hu1:∀ u:GW ((w.alloc (.cells #[.string k,.string na,.int .i64 v,.int .i64 bo,.string te,.bool en,.slice ad hn cap] 118)).alloc (.cells #[.string k,.string na,.int .i64 v,.int .i64 bo,.string te,.bool en',.slice ad2 hn' cap2] 118)),StrsIn u.val lo hi ad hn hs:=fun u=>hc.below (((below_alloc' _ _).alloc Zd _).trans (u.prop.mono Zc)) hhi
 have hu2:∀ u:GW ((w.alloc (.cells #[.string k,.string na,.int .i64 v,.int .i64 bo,.string te,.bool en,.slice ad hn cap] 118)).alloc (.cells #[.string k,.string na,.int .i64 v,.int .i64 bo,.string te,.bool en',.slice ad2 hn' cap2] 118)),StrsIn u.val lo hi ad2 hn' hs':=fun u=>hc2.below (((below_alloc' _ _).alloc Zd _).trans (u.prop.mono Zc)) hhi
 refine wp_region_grow Zf Zf ?_
 repeat (go_big_quiet_step ((first|(go_at_call 139;first|exact grow_of (keyOf_any ⟨k,na,v,bo,te,en,hn,hs⟩ ad cap _)|exact grow_of (keyOf_any ⟨k,na,v,bo,te,en',hn',hs'⟩ ad2 cap2 _))|(go_at_call 180;exact grow_of ((slicesEq_any hn hn' hs hs' ad ad2 cap cap2 _ lo hi lo hi hx hz (hu1 _) (hu2 _)).mono (fun e w' h=>⟨h.1,Zam⟩))))))
 refine wpQuiet_nil ?_
 rintro w2 ⟨u,hu⟩
 have hw2:Below ((w.alloc (.cells #[.string k,.string na,.int .i64 v,.int .i64 bo,.string te,.bool en,.slice ad hn cap] 118)).alloc (.cells #[.string k,.string na,.int .i64 v,.int .i64 bo,.string te,.bool en',.slice ad2 hn' cap2] 118)).1.size ((w.alloc (.cells #[.string k,.string na,.int .i64 v,.int .i64 bo,.string te,.bool en,.slice ad hn cap] 118)).alloc (.cells #[.string k,.string na,.int .i64 v,.int .i64 bo,.string te,.bool en',.slice ad2 hn' cap2] 118)) w2:=hu▸u.prop
 exact apP180
theorem sameOb_hs (k:ByteArray) (na:ByteArray) (v:Int) (bo:Int) (te:ByteArray) (en:Bool) (hn hn':Nat) (hs hs':Nat→ByteArray) (ad ad2:Option Addr) (cap cap2:Nat) (w:World) (lo hi:Nat) (hhi:hi≤w.1.size) (hx:(hn:Int)≤140737488355328) (hz:(hn':Int)≤140737488355328) (hc:StrsIn w lo hi ad hn hs) (hc2:StrsIn w lo hi ad2 hn' hs') :
  Calls Tryz.prog 143 #[.agg #[.string k,.string na,.int .i64 v,.int .i64 bo,.string te,.bool en,.slice ad hn cap],.agg #[.string k,.string na,.int .i64 v,.int .i64 bo,.string te,.bool en,.slice ad2 hn' cap2]] w fun e w'=>e=.returned (.bool (sameB ⟨k,na,v,bo,te,en,hn,hs⟩ ⟨k,na,v,bo,te,en,hn',hs'⟩))∧Below w.1.size w w':=by
 have HE:=hid (show sameB ⟨k,na,v,bo,te,en,hn,hs⟩ ⟨k,na,v,bo,te,en,hn',hs'⟩=sEq hn hs hn' hs' by simp [sameB])
 go_enter Tryz.func143,Tryz.ntmps143
 go_wp2
 have hne:Nonempty (GW ((w.alloc (.cells #[.string k,.string na,.int .i64 v,.int .i64 bo,.string te,.bool en,.slice ad hn cap] 118)).alloc (.cells #[.string k,.string na,.int .i64 v,.int .i64 bo,.string te,.bool en,.slice ad2 hn' cap2] 118))):=⟨⟨_,Below.refl _ _⟩⟩
 have x0:=subcell (W1:=(w.alloc (.cells #[.string k,.string na,.int .i64 v,.int .i64 bo,.string te,.bool en,.slice ad hn cap] 118)).alloc (.cells #[.string k,.string na,.int .i64 v,.int .i64 bo,.string te,.bool en,.slice ad2 hn' cap2] 118)) (p:=⟨w.1.size,0,none⟩) (v:=.string k) (box2_cell Zbv 0) Zc
 have z0:=subcell (W1:=(w.alloc (.cells #[.string k,.string na,.int .i64 v,.int .i64 bo,.string te,.bool en,.slice ad hn cap] 118)).alloc (.cells #[.string k,.string na,.int .i64 v,.int .i64 bo,.string te,.bool en,.slice ad2 hn' cap2] 118)) (p:=⟨w.1.size+1,0,none⟩) (v:=.string k) Zd Zd
 have x1:=subcell (W1:=(w.alloc (.cells #[.string k,.string na,.int .i64 v,.int .i64 bo,.string te,.bool en,.slice ad hn cap] 118)).alloc (.cells #[.string k,.string na,.int .i64 v,.int .i64 bo,.string te,.bool en,.slice ad2 hn' cap2] 118)) (p:=⟨w.1.size,1,none⟩) (v:=.string na) (box2_cell Zbv 1) Zc
 have z1:=subcell (W1:=(w.alloc (.cells #[.string k,.string na,.int .i64 v,.int .i64 bo,.string te,.bool en,.slice ad hn cap] 118)).alloc (.cells #[.string k,.string na,.int .i64 v,.int .i64 bo,.string te,.bool en,.slice ad2 hn' cap2] 118)) (p:=⟨w.1.size+1,1,none⟩) (v:=.string na) Zd Zd
 have x2:=subcell (W1:=(w.alloc (.cells #[.string k,.string na,.int .i64 v,.int .i64 bo,.string te,.bool en,.slice ad hn cap] 118)).alloc (.cells #[.string k,.string na,.int .i64 v,.int .i64 bo,.string te,.bool en,.slice ad2 hn' cap2] 118)) (p:=⟨w.1.size,2,none⟩) (v:=.int .i64 v) (box2_cell Zbv 2) Zc
 have z2:=subcell (W1:=(w.alloc (.cells #[.string k,.string na,.int .i64 v,.int .i64 bo,.string te,.bool en,.slice ad hn cap] 118)).alloc (.cells #[.string k,.string na,.int .i64 v,.int .i64 bo,.string te,.bool en,.slice ad2 hn' cap2] 118)) (p:=⟨w.1.size+1,2,none⟩) (v:=.int .i64 v) Zd Zd
 have x3:=subcell (W1:=(w.alloc (.cells #[.string k,.string na,.int .i64 v,.int .i64 bo,.string te,.bool en,.slice ad hn cap] 118)).alloc (.cells #[.string k,.string na,.int .i64 v,.int .i64 bo,.string te,.bool en,.slice ad2 hn' cap2] 118)) (p:=⟨w.1.size,3,none⟩) (v:=.int .i64 bo) (box2_cell Zbv 3) Zc
 have z3:=subcell (W1:=(w.alloc (.cells #[.string k,.string na,.int .i64 v,.int .i64 bo,.string te,.bool en,.slice ad hn cap] 118)).alloc (.cells #[.string k,.string na,.int .i64 v,.int .i64 bo,.string te,.bool en,.slice ad2 hn' cap2] 118)) (p:=⟨w.1.size+1,3,none⟩) (v:=.int .i64 bo) Zd Zd
 have x4:=subcell (W1:=(w.alloc (.cells #[.string k,.string na,.int .i64 v,.int .i64 bo,.string te,.bool en,.slice ad hn cap] 118)).alloc (.cells #[.string k,.string na,.int .i64 v,.int .i64 bo,.string te,.bool en,.slice ad2 hn' cap2] 118)) (p:=⟨w.1.size,4,none⟩) (v:=.string te) (box2_cell Zbv 4) Zc
 have z4:=subcell (W1:=(w.alloc (.cells #[.string k,.string na,.int .i64 v,.int .i64 bo,.string te,.bool en,.slice ad hn cap] 118)).alloc (.cells #[.string k,.string na,.int .i64 v,.int .i64 bo,.string te,.bool en,.slice ad2 hn' cap2] 118)) (p:=⟨w.1.size+1,4,none⟩) (v:=.string te) Zd Zd
 have x5:=subcell (W1:=(w.alloc (.cells #[.string k,.string na,.int .i64 v,.int .i64 bo,.string te,.bool en,.slice ad hn cap] 118)).alloc (.cells #[.string k,.string na,.int .i64 v,.int .i64 bo,.string te,.bool en,.slice ad2 hn' cap2] 118)) (p:=⟨w.1.size,5,none⟩) (v:=.bool en) (box2_cell Zbv 5) Zc
 have z5:=subcell (W1:=(w.alloc (.cells #[.string k,.string na,.int .i64 v,.int .i64 bo,.string te,.bool en,.slice ad hn cap] 118)).alloc (.cells #[.string k,.string na,.int .i64 v,.int .i64 bo,.string te,.bool en,.slice ad2 hn' cap2] 118)) (p:=⟨w.1.size+1,5,none⟩) (v:=.bool en) Zd Zd
 have x6:=subcell (W1:=(w.alloc (.cells #[.string k,.string na,.int .i64 v,.int .i64 bo,.string te,.bool en,.slice ad hn cap] 118)).alloc (.cells #[.string k,.string na,.int .i64 v,.int .i64 bo,.string te,.bool en,.slice ad2 hn' cap2] 118)) (p:=⟨w.1.size,6,none⟩) (v:=.slice ad hn cap) (box2_cell Zbv 6) Zc
 have z6:=subcell (W1:=(w.alloc (.cells #[.string k,.string na,.int .i64 v,.int .i64 bo,.string te,.bool en,.slice ad hn cap] 118)).alloc (.cells #[.string k,.string na,.int .i64 v,.int .i64 bo,.string te,.bool en,.slice ad2 hn' cap2] 118)) (p:=⟨w.1.size+1,6,none⟩) (v:=.slice ad2 hn' cap2) Zd Zd
 have hu1:∀ u:GW ((w.alloc (.cells #[.string k,.string na,.int .i64 v,.int .i64 bo,.string te,.bool en,.slice ad hn cap] 118)).alloc (.cells #[.string k,.string na,.int .i64 v,.int .i64 bo,.string te,.bool en,.slice ad2 hn' cap2] 118)),StrsIn u.val lo hi ad hn hs:=fun u=>hc.below (((below_alloc' _ _).alloc Zd _).trans (u.prop.mono Zc)) hhi
 have hu2:∀ u:GW ((w.alloc (.cells #[.string k,.string na,.int .i64 v,.int .i64 bo,.string te,.bool en,.slice ad hn cap] 118)).alloc (.cells #[.string k,.string na,.int .i64 v,.int .i64 bo,.string te,.bool en,.slice ad2 hn' cap2] 118)),StrsIn u.val lo hi ad2 hn' hs':=fun u=>hc2.below (((below_alloc' _ _).alloc Zd _).trans (u.prop.mono Zc)) hhi
 refine wp_region_grow Zf Zf ?_
 repeat (go_big_quiet_step ((first|(go_at_call 139;first|exact grow_of (keyOf_any ⟨k,na,v,bo,te,en,hn,hs⟩ ad cap _)|exact grow_of (keyOf_any ⟨k,na,v,bo,te,en,hn',hs'⟩ ad2 cap2 _))|(go_at_call 180;exact grow_of ((slicesEq_any hn hn' hs hs' ad ad2 cap cap2 _ lo hi lo hi hx hz (hu1 _) (hu2 _)).mono (fun e w' h=>⟨h.1,Zam⟩))))))
 refine wpQuiet_nil ?_
 rintro w2 ⟨u,hu⟩
 have hw2:Below ((w.alloc (.cells #[.string k,.string na,.int .i64 v,.int .i64 bo,.string te,.bool en,.slice ad hn cap] 118)).alloc (.cells #[.string k,.string na,.int .i64 v,.int .i64 bo,.string te,.bool en,.slice ad2 hn' cap2] 118)).1.size ((w.alloc (.cells #[.string k,.string na,.int .i64 v,.int .i64 bo,.string te,.bool en,.slice ad hn cap] 118)).alloc (.cells #[.string k,.string na,.int .i64 v,.int .i64 bo,.string te,.bool en,.slice ad2 hn' cap2] 118)) w2:=hu▸u.prop
 exact apP180
theorem sameOb_any (x z:Ob) (ad ad2:Option Addr) (cap cap2:Nat) (w:World) (lo hi:Nat) (hhi:hi≤w.1.size) (hx:(x.hn:Int)≤140737488355328) (hz:(z.hn:Int)≤140737488355328) (hc:StrsIn w lo hi ad x.hn x.hs) (hc2:StrsIn w lo hi ad2 z.hn z.hs) :
  Calls Tryz.prog 143 #[.agg #[.string x.kind,.string x.name,.int .i64 x.ver,.int .i64 x.born,.string x.text,.bool x.ending,.slice ad x.hn cap],.agg #[.string z.kind,.string z.name,.int .i64 z.ver,.int .i64 z.born,.string z.text,.bool z.ending,.slice ad2 z.hn cap2]] w fun e w'=>e=.returned (.bool (sameB x z))∧Below w.1.size w w':=by
 obtain ⟨k,na,v,bo,te,en,hn,hs⟩:=x
 obtain ⟨k',na',v',bo',te',en',hn',hs'⟩:=z
 by_cases hq0:k=k'
 case neg=>exact sameOb_k _ _ _ _ _ _ _ _ _ _ _ _ hn hn' hs hs' ad ad2 cap cap2 w lo hi hhi hx hz hc hc2 hq0
 subst hq0
 by_cases hq1:na=na'
 case neg=>exact sameOb_na _ _ _ _ _ _ _ _ _ _ _ hn hn' hs hs' ad ad2 cap cap2 w lo hi hhi hx hz hc hc2 hq1
 subst hq1
 by_cases hq2:v=v'
 case neg=>exact sameOb_v _ _ _ _ _ _ _ _ _ _ hn hn' hs hs' ad ad2 cap cap2 w lo hi hhi hx hz hc hc2 hq2
 subst hq2
 by_cases hq3:bo=bo'
 case neg=>exact sameOb_bo _ _ _ _ _ _ _ _ _ hn hn' hs hs' ad ad2 cap cap2 w lo hi hhi hx hz hc hc2 hq3
 subst hq3
 by_cases hq4:te=te'
 case neg=>exact sameOb_te _ _ _ _ _ _ _ _ hn hn' hs hs' ad ad2 cap cap2 w lo hi hhi hx hz hc hc2 hq4
 subst hq4
 by_cases hq5:en=en'
 case neg=>exact sameOb_en _ _ _ _ _ _ _ hn hn' hs hs' ad ad2 cap cap2 w lo hi hhi hx hz hc hc2 hq5
 subst hq5
 exact sameOb_hs k na v bo te en hn hn' hs hs' ad ad2 cap cap2 w lo hi hhi hx hz hc hc2
end Go.Proofs.YtllmmkchokkaaaaGreatDoor
