import Derived.Test.YtllmmkchokkaaaaGreatDoorPk04
import Derived.Orders
import Derived.Test.YtllmmkchokkaaaaGreatDoorPk05
import Derived.Deep.QuietTactic
import Derived.BigQuiet
set_option maxRecDepth 100000
set_option maxHeartbeats 2000000
namespace Go.Proofs.YtllmmkchokkaaaaGreatDoor
open Go.RowKit
theorem wpOp_mono {P:Program} {ops:Array Oper} {Q:Exit→Act→World→Prop} {i:Nat} {K K':Act→World→Prop} {a:Act} {w:World} (h:∀ a w,K a w→K' a w) (hh:wpOp P ops Q i K a w):wpOp P ops Q i K' a w:=by
 unfold wpOp at *
 split at hh
 ·exact h _ _ hh
 ·split at hh
  ·next hw=>
   rw [if_pos hw]
   rcases hh with hh|hh
   ·exact Or.inl (Oper.wp_mono h hh)
   ·exact Or.inr hh
  ·next hw=>
   rw [if_neg hw]
   exact h _ _ hh
def cnt (l:Array Bool):Nat→Nat
 | 0=>0
 | n+1=>cnt l n+(if l.getD n true then 0 else 1)
theorem getD_set {l:Array Bool} {i j:Nat} (hi:i<l.size) (d:Bool):(l.setIfInBounds i true).getD j d=if j=i then true else l.getD j d:=by
 by_cases h:j=i
 ·subst h
  simp [Array.getD,hi]
 ·rw [if_neg h,Array.getD_eq_getD_getElem?,Array.getD_eq_getD_getElem?,Array.getElem?_setIfInBounds,if_neg (fun e=>h e.symm)]
theorem cnt_set {l:Array Bool} {i:Nat} (hi:i<l.size):∀ n,cnt (l.setIfInBounds i true) n≤cnt l n
 | 0=>Nat.le_refl _
 | n+1=>by
  unfold cnt
  have h:=cnt_set hi n
  rw [getD_set hi]
  by_cases e:n=i
  ·rw [if_pos e];simp;split<;>omega
  ·rw [if_neg e];omega
theorem cnt_lt {l:Array Bool} {i:Nat} (hi:i<l.size) (h0:l.getD i true=false):∀ n,i<n→cnt (l.setIfInBounds i true) n<cnt l n
 | 0,h=>absurd h (Nat.not_lt_zero _)
 | n+1,h=>by
  unfold cnt
  rw [getD_set hi]
  by_cases e:n=i
  ·subst e
   have:=cnt_set hi n
   rw [if_pos rfl,h0];simp;omega
  ·have:=cnt_lt hi h0 n Za
   rw [if_neg e];omega
theorem cnt_zero {l:Array Bool} : ∀ {n:Nat},cnt l n=0→∀ i,i<n→l.getD i true=true
 | 0,_,i,h=>absurd h (Nat.not_lt_zero _)
 | n+1,h0,i,h=>by
  unfold cnt at h0
  by_cases e:i=n
  ·subst e
   cases hg:l.getD i true with
   | true=>rfl
   | false=>rw [hg] at h0;simp at h0
  ·exact cnt_zero (n:=n) Za i Za
theorem cnt_le (l:Array Bool):∀ n,cnt l n≤n
 | 0=>Nat.le_refl _
 | n+1=>by
  unfold cnt
  have:=cnt_le l n
  split<;>omega
theorem wpAny_inv {P:Program} {md:Region.Mode} {ops:Array Oper} {Q:Exit→Act→World→Prop} (Inv:Array Bool→Act→World→Prop)
  (hsz:∀ l a w,Inv l a w→l.size=ops.size)
  (hdone:∀ l a w,Inv l a w→Region.ready md ops l=[]→Q .normal a w)
  (hstep:∀ l a w i,Inv l a w→i ∈ Region.ready md ops l→wpOp P ops Q i (Inv (l.setIfInBounds i true)) a w) :
  ∀ fuel l a w,Inv l a w→cnt l ops.size≤fuel→wpAny P md ops Q fuel l a w
 | 0,l,a,w,hI,hc=>by
  have hr:Region.ready md ops l=[]:=by
   rw [List.eq_nil_iff_forall_not_mem]
   intro i hi
   have h1:=(List.mem_filter.1 hi)
   have h2:i<ops.size:=by simpa using h1.1
   have h3:=h1.2
   rw [cnt_zero Za i h2] at h3
   simp at h3
  exact ⟨hr,hdone l a w hI hr⟩
 | fuel+1,l,a,w,hI,hc=>by
  refine ⟨fun hr=>hdone l a w hI hr,fun i hi=>?_⟩
  have h1:=(List.mem_filter.1 hi)
  have h2:i<ops.size:=by simpa using h1.1
  have h3:l.getD i true=false:=by
   have h4:=h1.2
   simp only [Bool.and_eq_true] at h4
   simpa using h4.1
  have hs:=hsz l a w hI
  have h5:=cnt_lt (l:=l) (i:=i) Za h3 ops.size h2
  exact wpOp_mono (fun a' w' hI'=>wpAny_inv Inv hsz hdone hstep fuel _ a' w' hI' Za) (hstep l a w i hI hi)
theorem wp_region_inv {P:Program} {id:Nat} {ops:Array Oper} {Q:Exit→Act→World→Prop} {a:Act} {w:World} (hm:P.follows .mixedOrders=true) (Inv:Array Bool→Act→World→Prop)
  (h0:Inv (Array.replicate ops.size false) a w.drew)
  (hsz:∀ l a w,Inv l a w→l.size=ops.size)
  (hdone:∀ l a w,Inv l a w→Region.ready .any ops l=[]→Q .normal a w)
  (hstep:∀ l a w i,Inv l a w→i ∈ Region.ready .any ops l→wpOp P ops Q i (Inv (l.setIfInBounds i true)) a w):(Code.region id ops true).wp P Q a w:=
 wp_region_any hm (wpAny_inv Inv hsz hdone hstep _ _ _ _ h0 (cnt_le _ _))
theorem all_listed {ops:Array Oper} {l:Array Bool} (hord:((List.range ops.size).all fun i=>match ops[i]? with|some o=>o.after.all (fun e=>decide (e.on<i))|none=>true)=true) (hs:l.size=ops.size) (hr:Region.ready .any ops l=[]):∀ i,i<ops.size→l.getD i false=true:=by
 have conv:∀ i,i<ops.size→l.getD i true=l.getD i false:=fun i hi=>by simp [Array.getD,hs,hi]
 intro i
 induction i using Nat.strongRecOn with
 | _ i ih=>
  intro hi
  cases hg:l.getD i false with
  | true=>rfl
  | false=>
   have hm:i ∈ Region.ready .any ops l:=by
    rw [mem_ready]
    refine ⟨(conv i hi).trans hg,ops[i],by simp [hi],fun e he _=>?_⟩
    have h1:=List.all_eq_true.1 hord i (by simpa using hi)
    simp only [Array.getElem?_eq_getElem hi] at h1
    have h2:=(Array.all_eq_true_iff_forall_mem.1 h1) e he
    have h3:e.on<i:=by simpa using h2
    exact ih e.on h3 Za
   rw [hr] at hm
   cases hm
theorem wpOp_of {P:Program} {ops:Array Oper} {Q:Exit→Act→World→Prop} {i:Nat} {K:Act→World→Prop} {a:Act} {w:World} {o:Oper} (ho:ops[i]? = some o) (hg:o.guard=none) (h:o.wp P a w K Q):wpOp P ops Q i K a w:=by
 unfold wpOp
 rw [ho]
 simp only [Region.wanted,hg,if_true]
 exact Or.inl h
theorem isNaN1_any (a:ByteArray) (w:World):Calls Tryz.prog 201 #[.string a] w fun e w'=>e=.returned (.bool false)∧w'=w:=by
 go_enter Tryz.func201,Tryz.ntmps201
 go_wp2
 go_ret
 exact ⟨rfl,rfl⟩
def cmpI (a b:ByteArray):Int:=if ltB a b then -1 else if a.toList=b.toList then 0 else 1
theorem apP100 {P:Prop} (h:P:=by
  clear h2
  go_enter Tryz.func183,Tryz.ntmps183
  go_wp2_with (go_at_call 201;refine (isNaN1_any _ _).mono ?_;rintro e w1 ⟨rfl,rfl⟩)
  go_ret
  exact ⟨ret_int HE.out.symm,rfl⟩):P:=h
theorem compare_any (a b:ByteArray) (w:World):Calls Tryz.prog 183 #[.string a,.string b] w fun e w'=>e=.returned (.int .i64 (cmpI a b))∧w'=w:=by
 cases h1:ltB a b with
 | true=>
  have h1':Op.bytesLess a.toList b.toList=true:=h1
  go_enter Tryz.func183,Tryz.ntmps183
  go_wp2_with (go_at_call 201;refine (isNaN1_any _ _).mono ?_;rintro e w1 ⟨rfl,rfl⟩)
  go_ret
  exact ⟨ret_int (by unfold cmpI;rw [h1];rfl),rfl⟩
 | false=>
  have h1':Op.bytesLess a.toList b.toList=false:=h1
  by_cases h2:a.toList=b.toList
  ·have h2':(a.toList==b.toList)=true:=by simp [h2]
   have HE:=hid (show cmpI a b=0 by unfold cmpI;rw [h1,if_pos h2];rfl)
   exact apP100
  ·have h2':(a.toList==b.toList)=false:=by simp [h2]
   have HE:=hid (show cmpI a b=1 by unfold cmpI;rw [h1,if_neg h2];rfl)
   exact apP100
def orI (k1 k2:Int):Int:=if k1=0 then k2 else k1
theorem or_any (k1 k2:Int) (b cap:Nat) (w:World) (h1:w.cell? ⟨b,0,none⟩=some (.int .i64 k1)) (h2:w.cell? ⟨b,1,none⟩=some (.int .i64 k2)) :
  Calls Tryz.prog 182 #[.slice (some ⟨b,0,none⟩) 2 cap] w fun e w'=>e=.returned (.int .i64 (orI k1 k2))∧w'=w:=by
 go_enter Tryz.func182,Tryz.ntmps182
 go_wp2
 go_loopw [8] (fun i wr=>wr=w∧((i=.int .i64 0)∨(i=.int .i64 1∧k1=0)∨(i=.int .i64 2∧k1=0∧k2=0))) (fun i _=>2-(intOf i).toNat)
 case atStart=>exact ⟨rfl,Or.inl rfl⟩
 case round=>
  obtain ⟨rfl,rfl|⟨rfl,e1⟩|⟨rfl,e1,e2⟩⟩:=hrel
  ·by_cases e:k1=0
   ·subst e
    go_wp2
    go_roundw
    case rel=>exact ⟨by first|rfl|trivial,Or.inr (Or.inl ⟨by go_num,by first|rfl|trivial⟩)⟩
    case measure=>simp [intOf]
   ·have eb:(k1 != 0)=true:=by simp [e]
    have HE:=hid (show orI k1 k2=k1 from if_neg e)
    go_wp2
    go_ret
    exact ⟨ret_int HE.out.symm,rfl⟩
  ·subst e1
   by_cases e:k2=0
   ·subst e
    go_wp2
    go_roundw
    case rel=>exact ⟨by first|rfl|trivial,Or.inr (Or.inr ⟨by go_num,by first|rfl|trivial,by first|rfl|trivial⟩)⟩
    case measure=>simp [intOf]
   ·have eb:(k2 != 0)=true:=by simp [e]
    have HE:=hid (show orI 0 k2=k2 from if_pos rfl)
    go_wp2
    go_ret
    exact ⟨ret_int HE.out.symm,rfl⟩
  ·subst e1 e2
   go_wp2
   go_ret
   exact ⟨ret_int rfl,rfl⟩
def PlInv (w0:World) (k1 n1 ki na:ByteArray) (l:Array Bool) (a:Act) (w:World):Prop:=
 ∃ (t4 t5 t6 t7 t8 t9 t10 t11 t12 t13 t14 t15 t16:Value),a=⟨#[.agg #[.string k1,.string n1],.agg #[.string ki,.string na],.pointer (some ⟨w0.1.size,0,none⟩),.pointer (some ⟨w0.1.size+1,0,none⟩),t4,t5,t6,t7,t8,t9,t10,t11,t12,t13,t14,t15,t16],[]⟩∧l.size=13∧(l.getD 0 false=true→t5=.pointer (some ⟨w0.1.size,0,none⟩))∧(l.getD 1 false=true→t6=.string k1)∧(l.getD 2 false=true→t7=.pointer (some ⟨w0.1.size+1,0,none⟩))∧(l.getD 3 false=true→t8=.string ki)∧(l.getD 4 false=true→t9=.int .i64 (cmpI k1 ki))∧(l.getD 5 false=true→t10=.pointer (some ⟨w0.1.size,1,none⟩))∧(l.getD 6 false=true→t11=.string n1)∧(l.getD 7 false=true→t12=.pointer (some ⟨w0.1.size+1,1,none⟩))∧(l.getD 8 false=true→t13=.string na)∧(l.getD 9 false=true→t14=.int .i64 (cmpI n1 na))∧(l.getD 10 false=true→t15=.slice (some ⟨w0.1.size+1+1,0,none⟩) 2 2∧w=(((w0.alloc (.cells #[.string k1,.string n1] 139)).alloc (.cells #[.string ki,.string na] 139)).drew.alloc (.cells #[.int .i64 (cmpI k1 ki),.int .i64 (cmpI n1 na)] 3)))∧(l.getD 11 false=true→t16=.int .i64 (orI (cmpI k1 ki) (cmpI n1 na)))∧(l.getD 12 false=true→t4=.int .i64 (orI (cmpI k1 ki) (cmpI n1 na)))∧(l.getD 10 false=false→w=((w0.alloc (.cells #[.string k1,.string n1] 139)).alloc (.cells #[.string ki,.string na] 139)).drew)
theorem keyCmp_any (k1 n1 ki na:ByteArray) (w:World) :
  Calls Tryz.prog 153 #[.agg #[.string k1,.string n1],.agg #[.string ki,.string na]] w fun e w'=>e=.returned (.int .i64 (orI (cmpI k1 ki) (cmpI n1 na)))∧Below w.1.size w w':=by
 go_enter Tryz.func153,Tryz.ntmps153
 go_wp2
 refine wp_region_inv Zf (PlInv w k1 n1 ki na) ?_ ?_ ?_ ?_
 ·unfold PlInv
  refine ⟨_,_,_,_,_,_,_,_,_,_,_,_,_,rfl,Zd,?_⟩
  simp
 ·intro l a w' hI
  obtain ⟨t4,t5,t6,t7,t8,t9,t10,t11,t12,t13,t14,t15,t16,rfl,hls,_⟩:=hI
  exact hls
 ·intro l a w' hI hr
  obtain ⟨t4,t5,t6,t7,t8,t9,t10,t11,t12,t13,t14,t15,t16,rfl,hls,f0,f1,f2,f3,f4,f5,f6,f7,f8,f9,f10,f11,f12,f13⟩:=hI
  have AL:=all_listed Zf (by rw [hls];rfl) hr
  obtain rfl:=f12 (AL 12 Zb)
  obtain rfl:=(f10 (AL 10 Zb)).2
  clear f0 f1 f2 f3 f4 f5 f6 f7 f8 f9 f10 f11 f12 f13 AL hr hls
  go_wp2
  go_ret
  exact ⟨rfl,((((below_alloc' _ _).alloc Zd _).drew).alloc Zc _)⟩
 ·intro l a w' i hI hr
  obtain ⟨t4,t5,t6,t7,t8,t9,t10,t11,t12,t13,t14,t15,t16,rfl,hls,f0,f1,f2,f3,f4,f5,f6,f7,f8,f9,f10,f11,f12,f13⟩:=hI
  obtain ⟨hu,o',ho,hdep⟩:=mem_ready.1 hr
  have hi16:i<13:=by
   rcases Nat.lt_or_ge i 13 with h|h
   ·exact h
   ·rw [Array.getElem?_eq_none (by simpa using h)] at ho
    cases ho
  have kp:∀ j,¬j=i→(l.setIfInBounds i true).getD j false=l.getD j false:=fun j hj=>by rw [getD_set Za,if_neg hj]
  have ki':(l.setIfInBounds i true).getD i false=true:=by rw [getD_set Za,if_pos rfl]
  have hsz':(l.setIfInBounds i true).size=13:=by simp [hls]
  have hui:l.getD i false=false:=by simpa [Array.getD,hls,hi16] using hu
  have hcell:∀ j,w'.cell? ⟨w.1.size,j,none⟩=(#[.string k1,.string n1]:Array Value)[j]?∧w'.cell? ⟨w.1.size+1,j,none⟩=(#[.string ki,.string na]:Array Value)[j]?:=fun j=>by
   cases h10:l.getD 10 false with
   | false=>rw [f13 h10];simp
   | true=>
    rw [(f10 h10).2]
    refine ⟨?_,?_⟩
    ·rw [World.cell?_alloc_past _ _ _ Zc];simp
    ·rw [World.cell?_alloc_past _ _ _ Zd];simp
  have p0:=(hcell 0).1
  have p1:=(hcell 1).1
  have s0:=(hcell 0).2
  have s1:=(hcell 1).2
  simp only [List.getElem?_toArray,List.getElem?_cons_succ,List.getElem?_cons_zero] at p0 p1 s0 s1
  clear hr hu hcell
  rcases (show i=0∨i=1∨i=2∨i=3∨i=4∨i=5∨i=6∨i=7∨i=8∨i=9∨i=10∨i=11∨i=12 by omega) with rfl|rfl|rfl|rfl|rfl|rfl|rfl|rfl|rfl|rfl|rfl|rfl|rfl
  ·simp only [List.getElem?_toArray,List.getElem?_cons_zero,Option.some.injEq] at ho
   subst ho
   clear hdep
   refine wpOp_of rfl rfl ?_
   generalize hK:PlInv w k1 n1 ki na (l.setIfInBounds 0 true)=K
   go_simp
   rw [←hK]
   unfold PlInv
   exact ⟨t4,_,t6,t7,t8,t9,t10,t11,t12,t13,t14,t15,t16,rfl,hsz',(fun _=>rfl),Zt,Zu,Zv,Zw,Zx,Zae,Zy,Zz,Zaf,Zar,Zp,Zq,Zas⟩
  ·simp only [List.getElem?_toArray,List.getElem?_cons_succ,List.getElem?_cons_zero,Option.some.injEq] at ho
   subst ho
   have q0:l.getD 0 false=true:=hdep ⟨0,.data⟩ Zd rfl
   clear hdep
   obtain rfl:=f0 q0
   refine wpOp_of rfl rfl ?_
   generalize hK:PlInv w k1 n1 ki na (l.setIfInBounds 1 true)=K
   go_simp
   rw [←hK]
   unfold PlInv
   exact ⟨t4,_,_,t7,t8,t9,t10,t11,t12,t13,t14,t15,t16,rfl,hsz',Zaa,(fun _=>rfl),Zu,Zv,Zw,Zx,Zae,Zy,Zz,Zaf,Zar,Zp,Zq,Zas⟩
  ·simp only [List.getElem?_toArray,List.getElem?_cons_succ,List.getElem?_cons_zero,Option.some.injEq] at ho
   subst ho
   clear hdep
   refine wpOp_of rfl rfl ?_
   generalize hK:PlInv w k1 n1 ki na (l.setIfInBounds 2 true)=K
   go_simp
   rw [←hK]
   unfold PlInv
   exact ⟨t4,t5,t6,_,t8,t9,t10,t11,t12,t13,t14,t15,t16,rfl,hsz',Zaa,Zt,(fun _=>rfl),Zv,Zw,Zx,Zae,Zy,Zz,Zaf,Zar,Zp,Zq,Zas⟩
  ·simp only [List.getElem?_toArray,List.getElem?_cons_succ,List.getElem?_cons_zero,Option.some.injEq] at ho
   subst ho
   have q2:l.getD 2 false=true:=hdep ⟨2,.data⟩ Zd rfl
   clear hdep
   obtain rfl:=f2 q2
   refine wpOp_of rfl rfl ?_
   generalize hK:PlInv w k1 n1 ki na (l.setIfInBounds 3 true)=K
   go_simp
   rw [←hK]
   unfold PlInv
   exact ⟨t4,t5,t6,_,_,t9,t10,t11,t12,t13,t14,t15,t16,rfl,hsz',Zaa,Zt,Zu,(fun _=>rfl),Zw,Zx,Zae,Zy,Zz,Zaf,Zar,Zp,Zq,Zas⟩
  ·simp only [List.getElem?_toArray,List.getElem?_cons_succ,List.getElem?_cons_zero,Option.some.injEq] at ho
   subst ho
   have q1:l.getD 1 false=true:=hdep ⟨1,.data⟩ Zd rfl
   have q3:l.getD 3 false=true:=hdep ⟨3,.data⟩ Zd rfl
   clear hdep
   obtain rfl:=f1 q1
   obtain rfl:=f3 q3
   refine wpOp_of rfl rfl ?_
   generalize hK:PlInv w k1 n1 ki na (l.setIfInBounds 4 true)=K
   go_simp
   go_at_call 183
   refine (compare_any _ _ _).mono ?_
   rintro e w1 ⟨rfl,rfl⟩
   rw [←hK]
   unfold PlInv
   exact ⟨t4,t5,_,t7,_,_,t10,t11,t12,t13,t14,t15,t16,rfl,hsz',Zaa,Zt,Zu,Zv,(fun _=>rfl),Zx,Zae,Zy,Zz,Zaf,Zar,Zp,Zq,Zas⟩
  ·simp only [List.getElem?_toArray,List.getElem?_cons_succ,List.getElem?_cons_zero,Option.some.injEq] at ho
   subst ho
   clear hdep
   refine wpOp_of rfl rfl ?_
   generalize hK:PlInv w k1 n1 ki na (l.setIfInBounds 5 true)=K
   go_simp
   rw [←hK]
   unfold PlInv
   exact ⟨t4,t5,t6,t7,t8,t9,_,t11,t12,t13,t14,t15,t16,rfl,hsz',Zaa,Zt,Zu,Zv,Zw,(fun _=>rfl),Zae,Zy,Zz,Zaf,Zar,Zp,Zq,Zas⟩
  ·simp only [List.getElem?_toArray,List.getElem?_cons_succ,List.getElem?_cons_zero,Option.some.injEq] at ho
   subst ho
   have q5:l.getD 5 false=true:=hdep ⟨5,.data⟩ Zd rfl
   clear hdep
   obtain rfl:=f5 q5
   refine wpOp_of rfl rfl ?_
   generalize hK:PlInv w k1 n1 ki na (l.setIfInBounds 6 true)=K
   go_simp
   rw [←hK]
   unfold PlInv
   exact ⟨t4,t5,t6,t7,t8,t9,_,_,t12,t13,t14,t15,t16,rfl,hsz',Zaa,Zt,Zu,Zv,Zw,Zx,(fun _=>rfl),Zy,Zz,Zaf,Zar,Zp,Zq,Zas⟩
  ·simp only [List.getElem?_toArray,List.getElem?_cons_succ,List.getElem?_cons_zero,Option.some.injEq] at ho
   subst ho
   clear hdep
   refine wpOp_of rfl rfl ?_
   generalize hK:PlInv w k1 n1 ki na (l.setIfInBounds 7 true)=K
   go_simp
   rw [←hK]
   unfold PlInv
   exact ⟨t4,t5,t6,t7,t8,t9,t10,t11,_,t13,t14,t15,t16,rfl,hsz',Zaa,Zt,Zu,Zv,Zw,Zx,Zae,(fun _=>rfl),Zz,Zaf,Zar,Zp,Zq,Zas⟩
  ·simp only [List.getElem?_toArray,List.getElem?_cons_succ,List.getElem?_cons_zero,Option.some.injEq] at ho
   subst ho
   have q7:l.getD 7 false=true:=hdep ⟨7,.data⟩ Zd rfl
   clear hdep
   obtain rfl:=f7 q7
   refine wpOp_of rfl rfl ?_
   generalize hK:PlInv w k1 n1 ki na (l.setIfInBounds 8 true)=K
   go_simp
   rw [←hK]
   unfold PlInv
   exact ⟨t4,t5,t6,t7,t8,t9,t10,t11,_,_,t14,t15,t16,rfl,hsz',Zaa,Zt,Zu,Zv,Zw,Zx,Zae,Zy,(fun _=>rfl),Zaf,Zar,Zp,Zq,Zas⟩
  ·simp only [List.getElem?_toArray,List.getElem?_cons_succ,List.getElem?_cons_zero,Option.some.injEq] at ho
   subst ho
   have q6:l.getD 6 false=true:=hdep ⟨6,.data⟩ Zd rfl
   have q8:l.getD 8 false=true:=hdep ⟨8,.data⟩ Zd rfl
   clear hdep
   obtain rfl:=f6 q6
   obtain rfl:=f8 q8
   refine wpOp_of rfl rfl ?_
   generalize hK:PlInv w k1 n1 ki na (l.setIfInBounds 9 true)=K
   go_simp
   go_at_call 183
   refine (compare_any _ _ _).mono ?_
   rintro e w1 ⟨rfl,rfl⟩
   rw [←hK]
   unfold PlInv
   exact ⟨t4,t5,t6,t7,t8,t9,t10,_,t12,_,_,t15,t16,rfl,hsz',Zaa,Zt,Zu,Zv,Zw,Zx,Zae,Zy,Zz,(fun _=>rfl),Zar,Zp,Zq,Zas⟩
  ·simp only [List.getElem?_toArray,List.getElem?_cons_succ,List.getElem?_cons_zero,Option.some.injEq] at ho
   subst ho
   have q4:l.getD 4 false=true:=hdep ⟨4,.data⟩ Zd rfl
   have q9:l.getD 9 false=true:=hdep ⟨9,.data⟩ Zd rfl
   clear hdep
   obtain rfl:=f4 q4
   obtain rfl:=f9 q9
   obtain rfl:=f13 hui
   refine wpOp_of rfl rfl ?_
   generalize hK:PlInv w k1 n1 ki na (l.setIfInBounds 10 true)=K
   go_simp
   rw [←hK]
   unfold PlInv
   exact ⟨t4,t5,t6,t7,t8,_,t10,t11,t12,t13,_,_,t16,rfl,hsz',Zaa,Zt,Zu,Zv,Zw,Zx,Zae,Zy,Zz,Zaf,(fun _=>⟨Zd,rfl⟩),Zp,Zq,(fun h=>absurd (ki'.symm.trans h) Zb)⟩
  ·simp only [List.getElem?_toArray,List.getElem?_cons_succ,List.getElem?_cons_zero,Option.some.injEq] at ho
   subst ho
   have q10:l.getD 10 false=true:=hdep ⟨10,.data⟩ Zd rfl
   clear hdep
   obtain ⟨rfl,rfl⟩:=f10 q10
   refine wpOp_of rfl rfl ?_
   generalize hK:PlInv w k1 n1 ki na (l.setIfInBounds 11 true)=K
   go_simp
   go_at_call 182
   refine (or_any (cmpI k1 ki) (cmpI n1 na) _ _ _ (by have h:=World.cell?_alloc_new ((w.alloc (.cells #[.string k1,.string n1] 139)).alloc (.cells #[.string ki,.string na] 139)) #[.int .i64 (cmpI k1 ki),.int .i64 (cmpI n1 na)] 3 0;simpa using h) (by have h:=World.cell?_alloc_new ((w.alloc (.cells #[.string k1,.string n1] 139)).alloc (.cells #[.string ki,.string na] 139)) #[.int .i64 (cmpI k1 ki),.int .i64 (cmpI n1 na)] 3 1;simpa using h)).mono ?_
   rintro e w1 ⟨rfl,rfl⟩
   rw [←hK]
   unfold PlInv
   exact ⟨t4,t5,t6,t7,t8,t9,t10,t11,t12,t13,t14,_,_,rfl,hsz',Zaa,Zt,Zu,Zv,Zw,Zx,Zae,Zy,Zz,Zaf,Zar,(fun _=>rfl),Zq,Zas⟩
  ·simp only [List.getElem?_toArray,List.getElem?_cons_succ,List.getElem?_cons_zero,Option.some.injEq] at ho
   subst ho
   have q11:l.getD 11 false=true:=hdep ⟨11,.data⟩ Zd rfl
   clear hdep
   obtain rfl:=f11 q11
   refine wpOp_of rfl rfl ?_
   generalize hK:PlInv w k1 n1 ki na (l.setIfInBounds 12 true)=K
   go_simp
   rw [←hK]
   unfold PlInv
   exact ⟨_,t5,t6,t7,t8,t9,t10,t11,t12,t13,t14,t15,_,rfl,hsz',Zaa,Zt,Zu,Zv,Zw,Zx,Zae,Zy,Zz,Zaf,Zar,Zp,(fun _=>rfl),Zas⟩
theorem keyOf0_any (x:Ob) (ad:Option Addr) (cap:Nat) (w:World) :
  Calls Tryz.prog 139 #[.agg #[.string x.kind,.string x.name,.int .i64 x.ver,.int .i64 x.born,.string x.text,.bool x.ending,.slice ad x.hn cap]] w fun e w'=>e=.returned (.agg #[.string x.kind,.string x.name])∧Below w.1.size w w':=by
 go_enter Tryz.func139,Tryz.ntmps139
 go_wp2
 refine bodyPost_ret (v:=.agg #[.string x.kind,.string x.name]) (by simp [results,Tryz.results139,go_sem]) rfl ⟨rfl,?_⟩
 exact ((below_alloc' _ _).alloc Zd _)
theorem less_irrefl:∀ a:List UInt8,Op.bytesLess a a=false
 | []=>rfl
 | x::a=>by simp [Op.bytesLess,less_irrefl a]
theorem befB_cmp (x z:Ob):befB x z=decide (orI (cmpI x.kind z.kind) (cmpI x.name z.name)<0):=by
 unfold befB orI cmpI
 by_cases h2:x.kind.toList=z.kind.toList
 ·have h1:ltB x.kind z.kind=false:=by unfold ltB;rw [h2];exact less_irrefl _
  simp only [h1,h2,if_true,Bool.false_eq_true,if_false]
  cases h3:ltB x.name z.name with
  | true=>simp
  | false=>by_cases h4:x.name.toList=z.name.toList<;>simp [h4]
 ·cases h1:ltB x.kind z.kind with
  | true=>simp [h2]
  | false=>simp [h2]
theorem objCmp_any (x z:Ob) (ad ad2:Option Addr) (cap cap2:Nat) (w:World) :
  Calls Tryz.prog 176 #[.agg #[.string x.kind,.string x.name,.int .i64 x.ver,.int .i64 x.born,.string x.text,.bool x.ending,.slice ad x.hn cap],.agg #[.string z.kind,.string z.name,.int .i64 z.ver,.int .i64 z.born,.string z.text,.bool z.ending,.slice ad2 z.hn cap2]] w fun e w'=>e=.returned (.int .i64 (orI (cmpI x.kind z.kind) (cmpI x.name z.name)))∧Below w.1.size w w':=by
 go_enter Tryz.func176,Tryz.ntmps176
 go_wp2
 have hne:Nonempty (GW ((w.alloc (.cells #[.string x.kind,.string x.name,.int .i64 x.ver,.int .i64 x.born,.string x.text,.bool x.ending,.slice ad x.hn cap] 118)).alloc (.cells #[.string z.kind,.string z.name,.int .i64 z.ver,.int .i64 z.born,.string z.text,.bool z.ending,.slice ad2 z.hn cap2] 118))):=⟨⟨_,Below.refl _ _⟩⟩
 have x0:=subcell (W1:=(w.alloc (.cells #[.string x.kind,.string x.name,.int .i64 x.ver,.int .i64 x.born,.string x.text,.bool x.ending,.slice ad x.hn cap] 118)).alloc (.cells #[.string z.kind,.string z.name,.int .i64 z.ver,.int .i64 z.born,.string z.text,.bool z.ending,.slice ad2 z.hn cap2] 118)) (p:=⟨w.1.size,0,none⟩) (v:=.string x.kind) Zac Zc
 have z0:=subcell (W1:=(w.alloc (.cells #[.string x.kind,.string x.name,.int .i64 x.ver,.int .i64 x.born,.string x.text,.bool x.ending,.slice ad x.hn cap] 118)).alloc (.cells #[.string z.kind,.string z.name,.int .i64 z.ver,.int .i64 z.born,.string z.text,.bool z.ending,.slice ad2 z.hn cap2] 118)) (p:=⟨w.1.size+1,0,none⟩) (v:=.string z.kind) Zd Zd
 have x1:=subcell (W1:=(w.alloc (.cells #[.string x.kind,.string x.name,.int .i64 x.ver,.int .i64 x.born,.string x.text,.bool x.ending,.slice ad x.hn cap] 118)).alloc (.cells #[.string z.kind,.string z.name,.int .i64 z.ver,.int .i64 z.born,.string z.text,.bool z.ending,.slice ad2 z.hn cap2] 118)) (p:=⟨w.1.size,1,none⟩) (v:=.string x.name) Zac Zc
 have z1:=subcell (W1:=(w.alloc (.cells #[.string x.kind,.string x.name,.int .i64 x.ver,.int .i64 x.born,.string x.text,.bool x.ending,.slice ad x.hn cap] 118)).alloc (.cells #[.string z.kind,.string z.name,.int .i64 z.ver,.int .i64 z.born,.string z.text,.bool z.ending,.slice ad2 z.hn cap2] 118)) (p:=⟨w.1.size+1,1,none⟩) (v:=.string z.name) Zd Zd
 have x2:=subcell (W1:=(w.alloc (.cells #[.string x.kind,.string x.name,.int .i64 x.ver,.int .i64 x.born,.string x.text,.bool x.ending,.slice ad x.hn cap] 118)).alloc (.cells #[.string z.kind,.string z.name,.int .i64 z.ver,.int .i64 z.born,.string z.text,.bool z.ending,.slice ad2 z.hn cap2] 118)) (p:=⟨w.1.size,2,none⟩) (v:=.int .i64 x.ver) Zac Zc
 have z2:=subcell (W1:=(w.alloc (.cells #[.string x.kind,.string x.name,.int .i64 x.ver,.int .i64 x.born,.string x.text,.bool x.ending,.slice ad x.hn cap] 118)).alloc (.cells #[.string z.kind,.string z.name,.int .i64 z.ver,.int .i64 z.born,.string z.text,.bool z.ending,.slice ad2 z.hn cap2] 118)) (p:=⟨w.1.size+1,2,none⟩) (v:=.int .i64 z.ver) Zd Zd
 have x3:=subcell (W1:=(w.alloc (.cells #[.string x.kind,.string x.name,.int .i64 x.ver,.int .i64 x.born,.string x.text,.bool x.ending,.slice ad x.hn cap] 118)).alloc (.cells #[.string z.kind,.string z.name,.int .i64 z.ver,.int .i64 z.born,.string z.text,.bool z.ending,.slice ad2 z.hn cap2] 118)) (p:=⟨w.1.size,3,none⟩) (v:=.int .i64 x.born) Zac Zc
 have z3:=subcell (W1:=(w.alloc (.cells #[.string x.kind,.string x.name,.int .i64 x.ver,.int .i64 x.born,.string x.text,.bool x.ending,.slice ad x.hn cap] 118)).alloc (.cells #[.string z.kind,.string z.name,.int .i64 z.ver,.int .i64 z.born,.string z.text,.bool z.ending,.slice ad2 z.hn cap2] 118)) (p:=⟨w.1.size+1,3,none⟩) (v:=.int .i64 z.born) Zd Zd
 have x4:=subcell (W1:=(w.alloc (.cells #[.string x.kind,.string x.name,.int .i64 x.ver,.int .i64 x.born,.string x.text,.bool x.ending,.slice ad x.hn cap] 118)).alloc (.cells #[.string z.kind,.string z.name,.int .i64 z.ver,.int .i64 z.born,.string z.text,.bool z.ending,.slice ad2 z.hn cap2] 118)) (p:=⟨w.1.size,4,none⟩) (v:=.string x.text) Zac Zc
 have z4:=subcell (W1:=(w.alloc (.cells #[.string x.kind,.string x.name,.int .i64 x.ver,.int .i64 x.born,.string x.text,.bool x.ending,.slice ad x.hn cap] 118)).alloc (.cells #[.string z.kind,.string z.name,.int .i64 z.ver,.int .i64 z.born,.string z.text,.bool z.ending,.slice ad2 z.hn cap2] 118)) (p:=⟨w.1.size+1,4,none⟩) (v:=.string z.text) Zd Zd
 have x5:=subcell (W1:=(w.alloc (.cells #[.string x.kind,.string x.name,.int .i64 x.ver,.int .i64 x.born,.string x.text,.bool x.ending,.slice ad x.hn cap] 118)).alloc (.cells #[.string z.kind,.string z.name,.int .i64 z.ver,.int .i64 z.born,.string z.text,.bool z.ending,.slice ad2 z.hn cap2] 118)) (p:=⟨w.1.size,5,none⟩) (v:=.bool x.ending) Zac Zc
 have z5:=subcell (W1:=(w.alloc (.cells #[.string x.kind,.string x.name,.int .i64 x.ver,.int .i64 x.born,.string x.text,.bool x.ending,.slice ad x.hn cap] 118)).alloc (.cells #[.string z.kind,.string z.name,.int .i64 z.ver,.int .i64 z.born,.string z.text,.bool z.ending,.slice ad2 z.hn cap2] 118)) (p:=⟨w.1.size+1,5,none⟩) (v:=.bool z.ending) Zd Zd
 have x6:=subcell (W1:=(w.alloc (.cells #[.string x.kind,.string x.name,.int .i64 x.ver,.int .i64 x.born,.string x.text,.bool x.ending,.slice ad x.hn cap] 118)).alloc (.cells #[.string z.kind,.string z.name,.int .i64 z.ver,.int .i64 z.born,.string z.text,.bool z.ending,.slice ad2 z.hn cap2] 118)) (p:=⟨w.1.size,6,none⟩) (v:=.slice ad x.hn cap) Zac Zc
 have z6:=subcell (W1:=(w.alloc (.cells #[.string x.kind,.string x.name,.int .i64 x.ver,.int .i64 x.born,.string x.text,.bool x.ending,.slice ad x.hn cap] 118)).alloc (.cells #[.string z.kind,.string z.name,.int .i64 z.ver,.int .i64 z.born,.string z.text,.bool z.ending,.slice ad2 z.hn cap2] 118)) (p:=⟨w.1.size+1,6,none⟩) (v:=.slice ad2 z.hn cap2) Zd Zd
 refine wp_region_grow Zf Zf ?_
 repeat (go_big_quiet_step (first|(go_at_call 139;first|exact grow_of (keyOf0_any x ad cap _)|exact grow_of (keyOf0_any z ad2 cap2 _))|(go_at_call 153;go_must (exact grow_of (keyCmp_any _ _ _ _ _)))))
 refine wpQuiet_nil ?_
 rintro w2 ⟨u,hu⟩
 have hw2:Below ((w.alloc (.cells #[.string x.kind,.string x.name,.int .i64 x.ver,.int .i64 x.born,.string x.text,.bool x.ending,.slice ad x.hn cap] 118)).alloc (.cells #[.string z.kind,.string z.name,.int .i64 z.ver,.int .i64 z.born,.string z.text,.bool z.ending,.slice ad2 z.hn cap2] 118)).1.size ((w.alloc (.cells #[.string x.kind,.string x.name,.int .i64 x.ver,.int .i64 x.born,.string x.text,.bool x.ending,.slice ad x.hn cap] 118)).alloc (.cells #[.string z.kind,.string z.name,.int .i64 z.ver,.int .i64 z.born,.string z.text,.bool z.ending,.slice ad2 z.hn cap2] 118)) w2:=hu▸u.prop
 clear hu u hne x0 x1 x2 x3 x4 x5 x6 z0 z1 z2 z3 z4 z5 z6
 go_wp2
 go_ret
 exact ⟨rfl,((below_alloc' _ _).alloc Zd _).trans (hw2.mono Zc)⟩
theorem before_any (x z:Ob) (ad ad2:Option Addr) (cap cap2:Nat) (w:World) :
  Calls Tryz.prog 135 #[.agg #[.string x.kind,.string x.name,.int .i64 x.ver,.int .i64 x.born,.string x.text,.bool x.ending,.slice ad x.hn cap],.agg #[.string z.kind,.string z.name,.int .i64 z.ver,.int .i64 z.born,.string z.text,.bool z.ending,.slice ad2 z.hn cap2]] w fun e w'=>e=.returned (.bool (befB x z))∧Below w.1.size w w':=by
 have HE:=hid (befB_cmp x z)
 have HB:=hid (show ∀ o1 o2:Obj,Below w.1.size w ((w.alloc o1).alloc o2) from fun o1 o2=>(below_alloc' _ _).alloc Zd _)
 go_enter Tryz.func135,Tryz.ntmps135
 go_wp2_with (go_at_call 176;refine (objCmp_any x z _ _ _ _ _).mono ?_;rintro e w1 ⟨rfl,hb1⟩)
 go_ret
 exact ⟨ret_bool HE.out.symm,(HB.out _ _).trans (hb1.mono Zc)⟩
end Go.Proofs.YtllmmkchokkaaaaGreatDoor
