import Derived.Test.YtokkbdlofbdljaaGreatSb
import Derived.Test.YtokkbdlofbdljaaGreatEr
namespace Go.Proofs.YtokkbdlofbdljaaGreat
open Go.RowKit
set_option maxHeartbeats 8000000
structure Stg (W:World) (a b c d:Bool) (va vb vc vd:Value) (RA RB RC RD:Value→World→Prop) (X:World):Prop where
 ra:a=true→c=false→RA va X
 rb:b=true→c=false→RB vb X
 sep:a=true→b=true→c=false→∀ g h n k m,va=.slice (some ⟨g,0,none⟩) n k→0<k→vb=.slice (some ⟨h,0,none⟩) m m→g≠h
 rc:c=true→d=false→RC vc X
 rd:d=true→RD vd X
def RgA (n a b c d:Nat) (ops:Array Oper) (mk:(Nat→Value)→Array Value) (W:World) (PV:Nat→Value→Prop) (RA RB RC RD:Value→World→Prop) (Fin:Act→World→Prop) (l:Array Bool) (ac:Act) (X:World):Prop:=
 l.size=n+1∧(∀ i j,ZV ops i j→l.getD i false=true→l.getD j false=true) ∧
  (l.getD n false=true→(∀ i,i<n+1→l.getD i false=true)∧Fin ac X) ∧
  (l.getD n false=false→∃ t:Nat→Value,ac=⟨mk t,[]⟩∧Below W.1.size W X∧(∀ i,i<n→l.getD i false=true→PV i (t i))∧Stg W (l.getD a false) (l.getD b false) (l.getD c false) (l.getD d false) (t a) (t b) (t c) (t d) RA RB RC RD X)
theorem PD {P:Program} {id:Nat} {ops:Array Oper} {Q:Exit→Act→World→Prop} {a0:Act} {W:World} (hm:P.follows .mixedOrders=true) (n a b c d:Nat) (hlt:(a<b∧b<c)∧(c<d∧d<n)) (wca:ZV ops c a) (wcb:ZV ops c b) (wdc:ZV ops d c)
  (mk:(Nat→Value)→Array Value) (t0:Nat→Value) (PV:Nat→Value→Prop) (RA RB RC RD:Value→World→Prop) (Fin:Act→World→Prop)
  (hn:ops.size=n+1) (hord:((List.range ops.size).all fun i=>match ops[i]? with|some o=>o.after.all (fun e=>decide (e.on<i))|none=>true)=true)
  (hanc:((List.range n).all fun j=>(List.range (n+1)).any fun k=>match ops[k]? with|some o=>decide (j<k)&&o.after.any (fun e=>Region.binds .any e&&e.on==j)|none=>false)=true)
  (gA:∀ v X Y,RA v X→Below X.1.size X Y→RA v Y) (gB:∀ v X Y,RB v X→Below X.1.size X Y→RB v Y) (gC:∀ v X Y,RC v X→Below X.1.size X Y→RC v Y) (gD:∀ v X Y,RD v X→Below X.1.size X Y→RD v Y)
  (bA:∀ g n k X,RA (.slice (some ⟨g,0,none⟩) n k) X→0<k→g<X.1.size) (bB:∀ h m X,RB (.slice (some ⟨h,0,none⟩) m m) X→h<X.1.size)
  (h0:a0=⟨mk t0,[]⟩)
  (sp:∀ i,i<n→i≠a→i≠b→i≠c→i≠d→∀ (t:Nat→Value) X K,Below W.1.size W X→(∀ j,ZV ops i j→PV j (t j))→(∀ v Y,PV i v→Below X.1.size X Y→K ⟨mk (updT t i v),[]⟩ Y)→wpOp P ops Q i K ⟨mk t,[]⟩ X)
  (sa:∀ (t:Nat→Value) X K,Below W.1.size W X→(∀ j,ZV ops a j→PV j (t j))→(∀ v Y,PV a v→RA v Y→(∀ g n k,v=.slice (some ⟨g,0,none⟩) n k→0<k→X.1.size≤g)→Below X.1.size X Y→K ⟨mk (updT t a v),[]⟩ Y)→wpOp P ops Q a K ⟨mk t,[]⟩ X)
  (sb:∀ (t:Nat→Value) X K,Below W.1.size W X→(∀ j,ZV ops b j→PV j (t j))→(∀ v Y,PV b v→RB v Y→(∀ h m,v=.slice (some ⟨h,0,none⟩) m m→X.1.size≤h)→Below X.1.size X Y→K ⟨mk (updT t b v),[]⟩ Y)→wpOp P ops Q b K ⟨mk t,[]⟩ X)
  (sc:∀ (t:Nat→Value) X K,Below W.1.size W X→(∀ j,ZV ops c j→PV j (t j))→RA (t a) X→RB (t b) X→(∀ g h n k m,t a=.slice (some ⟨g,0,none⟩) n k→0<k→t b=.slice (some ⟨h,0,none⟩) m m→g≠h)→(∀ v Y,PV c v→RC v Y→Below W.1.size X Y→K ⟨mk (updT t c v),[]⟩ Y)→wpOp P ops Q c K ⟨mk t,[]⟩ X)
  (sd:∀ (t:Nat→Value) X K,Below W.1.size W X→(∀ j,ZV ops d j→PV j (t j))→RC (t c) X→(∀ v Y,PV d v→RD v Y→Below W.1.size X Y→K ⟨mk (updT t d v),[]⟩ Y)→wpOp P ops Q d K ⟨mk t,[]⟩ X)
  (sl:∀ (t:Nat→Value) X K,Below W.1.size W X→(∀ j,j<n→PV j (t j))→RD (t d) X→(∀ ac Y,Fin ac Y→K ac Y)→wpOp P ops Q n K ⟨mk t,[]⟩ X)
  (hfin:∀ ac X,Fin ac X→Q .normal ac X):(Code.region id ops true).wp P Q a0 W:=by
 have hdep:∀ i j,i<n+1→ZV ops i j→j<i:=by
  rintro i j hi ⟨o,ho,e,he,_,rfl⟩
  have h1:=List.all_eq_true.1 hord i (List.mem_range.2 (by omega))
  rw [ho] at h1
  exact of_decide_eq_true (Array.all_eq_true_iff_forall_mem.1 h1 e he)
 refine Yz hm (RgA n a b c d ops mk W PV RA RB RC RD Fin) ?_ ?_ ?_ ?_
 ·have hz:∀ i,(Array.replicate ops.size false).getD i false=false:=fun i=>by simp [Array.getD]
  refine ⟨by simp [hn],fun i j _ h=>?_,fun h=>?_,fun _=>⟨t0,h0,(br _ _).drew,fun i _ h=>?_,?_⟩⟩
  ·rw [hz] at h;cases h
  ·rw [hz] at h;cases h
  ·rw [hz] at h;cases h
  ·simp only [hz]
   exact ⟨fun h=>(by cases h),fun h=>(by cases h),fun h=>(by cases h),fun h=>(by cases h),fun h=>(by cases h)⟩
 ·rintro l ac X ⟨hs,_⟩
  rw [hs,hn]
 ·rintro l ac X ⟨hs,_,h6,_⟩ hr
  have AL:=Y7 hord (by rw [hs,hn]) hr
  exact hfin ac X (h6 (AL n (by omega))).2
 ·rintro l ac X i ⟨hs,hcl,h6,hg⟩ hr
  obtain ⟨hu,o,ho,hall⟩:=mem_ready.1 hr
  have di:∀ j,ZV ops i j→l.getD j false=true:=by
   rintro j ⟨o',ho',e,he,hb,rfl⟩
   rw [ho] at ho'
   obtain rfl:o=o':=by simpa using ho'
   exact hall e he hb
  have hi7:i<n+1:=by
   rcases Nat.lt_or_ge i (n+1) with h|h
   ·exact h
   ·rw [Array.getElem?_eq_none (by omega)] at ho
    cases ho
  have hui:l.getD i false=false:=by
   have:l.getD i true=false:=hu
   simpa [Array.getD,hs,hi7] using this
  have l6:l.getD n false=false:=by
   cases h:l.getD n false with
   | false=>rfl
   | true=>rw [(h6 h).1 i hi7] at hui;cases hui
  obtain ⟨t,rfl,hb,gg,S⟩:=hg l6
  have kp:∀ j,¬j=i→(l.setIfInBounds i true).getD j false=l.getD j false:=fun j hj=>by rw [Yl (by omega),if_neg hj]
  have ki:(l.setIfInBounds i true).getD i false=true:=by rw [Yl (by omega),if_pos rfl]
  have hs':(l.setIfInBounds i true).size=n+1:=by simp [hs]
  have ku:∀ j,l.getD j false=true→(l.setIfInBounds i true).getD j false=true:=fun j h=>by
   by_cases e:j=i
   ·subst e;exact ki
   ·rw [kp j e];exact h
  have hcl':∀ p j,ZV ops p j→(l.setIfInBounds i true).getD p false=true→(l.setIfInBounds i true).getD j false=true:=fun p j hj h=>by
   by_cases e:p=i
   ·subst e;exact ku j (di j hj)
   ·rw [kp p e] at h;exact ku j (hcl p j hj h)
  have dpv:∀ j,ZV ops i j→PV j (t j):=fun j hj=>gg j (by have:=hdep i j hi7 hj;omega) (di j hj)
  have notc:l.getD a false=false∨l.getD b false=false→l.getD c false=false:=fun h=>by
   cases hc:l.getD c false with
   | false=>rfl
   | true=>
    have h1:=hcl c a wca hc
    have h2:=hcl c b wcb hc
    rcases h with h|h
    ·rw [h] at h1;cases h1
    ·rw [h] at h2;cases h2
  have notd:l.getD c false=false→l.getD d false=false:=fun h=>by
   cases hc:l.getD d false with
   | false=>rfl
   | true=>have h1:=hcl d c wdc hc;rw [h] at h1;cases h1
  by_cases hin:i=n
  ·subst hin
   have al:=fun j hj=>Kn (f:=fun j=>l.getD j false=true) hanc hcl di i j (by omega) hj
   clear hr hu ho h6 hg
   refine sl t X _ hb (fun j hj=>gg j hj (al j hj)) (S.rd (al d hlt.2.2)) (fun ac Y hY=>⟨hs',hcl',fun _=>⟨fun j hj=>?_,hY⟩,fun h=>?_⟩)
   ·by_cases e:j=i
    ·subst e;exact ki
    ·exact ku j (al j (by omega))
   ·rw [ki] at h;cases h
  have hno:(l.setIfInBounds i true).getD n false=false:=by rw [kp n (fun e=>hin e.symm)];exact l6
  have pv':∀ v,PV i v→∀ j,j<n→(l.setIfInBounds i true).getD j false=true→PV j (updT t i v j):=fun v hv j j1 h=>by
   by_cases e:j=i
   ·subst e;rw [YA];exact hv
   ·rw [kp j e] at h;rw [ZO e];exact gg j j1 h
  have noN:∀ {p:Prop},(l.setIfInBounds i true).getD n false=true→p:=fun h=>by rw [hno] at h;cases h
  clear hr hu ho h6 hg
  by_cases ea:i=a
  ·subst ea
   have hc0:=notc (Or.inl hui)
   refine sa t X _ hb dpv (fun v Y hpv hra hnew hY=>⟨hs',hcl',fun h=>noN h,fun _=>⟨updT t i v,rfl,hb.trans (hY.mono hb.size),pv' v hpv,?_⟩⟩)
   rw [ki,kp b (by omega),kp c (by omega),kp d (by omega),YA,ZO (show ¬b=i by omega),ZO (show ¬c=i by omega),ZO (show ¬d=i by omega)]
   exact ⟨fun _ _=>hra,fun h1 h2=>gB _ _ _ (S.rb h1 h2) hY,fun _ h1 h2 g h n k m e1 hk e2=>by
    have h3:=hnew g n k e1 hk
    have h4:=S.rb h1 h2
    rw [e2] at h4
    have:=bB h m X h4
    omega,fun h=>(by rw [hc0] at h;cases h),fun h=>(by rw [notd hc0] at h;cases h)⟩
  by_cases eb:i=b
  ·subst eb
   have hc0:=notc (Or.inr hui)
   refine sb t X _ hb dpv (fun v Y hpv hrb hnew hY=>⟨hs',hcl',fun h=>noN h,fun _=>⟨updT t i v,rfl,hb.trans (hY.mono hb.size),pv' v hpv,?_⟩⟩)
   rw [ki,kp a (by omega),kp c (by omega),kp d (by omega),YA,ZO (show ¬a=i by omega),ZO (show ¬c=i by omega),ZO (show ¬d=i by omega)]
   exact ⟨fun h1 h2=>gA _ _ _ (S.ra h1 h2) hY,fun _ _=>hrb,fun h1 _ h2 g h n k m e1 hk e2=>by
    have h3:=hnew h m e2
    have h4:=S.ra h1 h2
    rw [e1] at h4
    have:=bA g n k X h4 hk
    omega,fun h=>(by rw [hc0] at h;cases h),fun h=>(by rw [notd hc0] at h;cases h)⟩
  by_cases ec:i=c
  ·subst ec
   have la:=di a wca
   have lb:=di b wcb
   have hd0:=notd hui
   refine sc t X _ hb dpv (S.ra la hui) (S.rb lb hui) (fun g h n k m e1 hk e2=>S.sep la lb hui g h n k m e1 hk e2) (fun v Y hpv hrc hY=>⟨hs',hcl',fun h=>noN h,fun _=>⟨updT t i v,rfl,hb.trans hY,pv' v hpv,?_⟩⟩)
   rw [ki,kp a (by omega),kp b (by omega),kp d (by omega),YA,ZO (show ¬a=i by omega),ZO (show ¬b=i by omega),ZO (show ¬d=i by omega)]
   exact ⟨fun _ h=>(by cases h),fun _ h=>(by cases h),fun _ _ h=>(by cases h),fun _ _=>hrc,fun h=>(by rw [hd0] at h;cases h)⟩
  by_cases ed:i=d
  ·subst ed
   have lc:=di c wdc
   refine sd t X _ hb dpv (S.rc lc hui) (fun v Y hpv hrd hY=>⟨hs',hcl',fun h=>noN h,fun _=>⟨updT t i v,rfl,hb.trans hY,pv' v hpv,?_⟩⟩)
   rw [ki,kp a (by omega),kp b (by omega),kp c (by omega),YA,ZO (show ¬a=i by omega),ZO (show ¬b=i by omega),ZO (show ¬c=i by omega),lc]
   exact ⟨fun _ h=>(by cases h),fun _ h=>(by cases h),fun _ _ h=>(by cases h),fun _ h=>(by cases h),fun _=>hrd⟩
  ·refine sp i (by omega) ea eb ec ed t X _ hb dpv (fun v Y hpv hY=>⟨hs',hcl',fun h=>noN h,fun _=>⟨updT t i v,rfl,hb.trans (hY.mono hb.size),pv' v hpv,?_⟩⟩)
   rw [kp a (fun e=>ea e.symm),kp b (fun e=>eb e.symm),kp c (fun e=>ec e.symm),kp d (fun e=>ed e.symm),ZO (fun e=>ea e.symm),ZO (fun e=>eb e.symm),ZO (fun e=>ec e.symm),ZO (fun e=>ed e.symm)]
   exact ⟨fun h1 h2=>gA _ _ _ (S.ra h1 h2) hY,fun h1 h2=>gB _ _ _ (S.rb h1 h2) hY,S.sep,fun h1 h2=>gC _ _ _ (S.rc h1 h2) hY,fun h1=>gD _ _ _ (S.rd h1) hY⟩
def RwV (W:World) (k z:Nat) (c:Nat→Value) (v:Value) (X:World):Prop:=∃ ad g cp,v=.slice ad k cp∧Rw X ad g k cp z c∧(0<cp→W.1.size≤g)
def ElV (W:World) (z:Nat) (d:Nat→Value) (v:Value) (X:World):Prop:=∃ b,v=.slice (some ⟨b,0,none⟩) 1 1∧W.1.size≤b∧b<X.1.size∧SrcRow X b (b+1) (some ⟨b,0,none⟩) (1*z) d
theorem RwV.grow {W X Y:World} {k z:Nat} {c:Nat→Value} {v:Value} (h:RwV W k z c v X) (hb:Below X.1.size X Y):RwV W k z c v Y:=by
 obtain ⟨ad,g,cp,e,r,l⟩:=h
 exact ⟨ad,g,cp,e,r.grow hb,l⟩
theorem ElV.grow {W X Y:World} {z:Nat} {d:Nat→Value} {v:Value} (h:ElV W z d v X) (hb:Below X.1.size X Y):ElV W z d v Y:=by
 obtain ⟨b,e,l,u,s⟩:=h
 exact ⟨b,e,l,ltl u hb.size,s.belowR hb u⟩
theorem RwV.lt {W X:World} {k z:Nat} {c:Nat→Value} {g n q:Nat} (h:RwV W k z c (.slice (some ⟨g,0,none⟩) n q) X) (hq:0<q):g<X.1.size:=by
 obtain ⟨ad,g',cp,e,r,_⟩:=h
 cases e
 have:=r.addr hq
 cases this
 exact (r.room hq).lt
theorem ElV.lt {W X:World} {z:Nat} {d:Nat→Value} {h m:Nat} (h':ElV W z d (.slice (some ⟨h,0,none⟩) m m) X):h<X.1.size:=by
 obtain ⟨b,e,_,u,_⟩:=h'
 cases e
 exact u
theorem Oj {P:Program} (W X:World) (hbW:Below W.1.size W X) (t ty e:TypeId) (z bytes:Nat) (zv:Value) (ht:P.underlying t=some (.slice e)) (hinf:(P.info? e).map (fun i=>(i.zero,i.size,i.bytes))=some (some zv,z,bytes)) (hz:0<z) (hzv:zv.cells.size=z)
  (lo hi b:Nat) (ad:Option Addr) (k cap:Nat) (c:Nat→Value) (hc:SrcRow X lo hi ad (k*z) c) (h63:(k:Int)≤9223372036854775807) (hb:k*bytes≤140737488355328) :
  ∃ v Y,(Builtin.append_ #[t,t] ty #[.slice (some ⟨b,0,none⟩) 0 0,.slice ad k cap]).run P X=.ok v Y∧RwV W k z c v Y∧(∀ g n q,v=.slice (some ⟨g,0,none⟩) n q→0<q→X.1.size≤g)∧Below X.1.size X Y:=by
 obtain ⟨ad',cap',w',hrun,hrow,hb',hcl,hcz,hrm,_⟩:=YB (P:=P) X t ty e z bytes zv ht hinf hz lo hi b ad k cap c hc h63 hb
 refine ⟨_,w',hrun,⟨ad',X.1.size,cap',rfl,⟨fun h=>?_,hcl,fun h=>?_,fun j hj=>?_⟩,fun _=>hbW.size⟩,fun g n q e hq=>?_,hb'⟩
 ·exact (hrow (by omega)).1
 ·exact hrm (by omega) hzv
 ·have hk:0<k:=Nat.pos_of_ne_zero (fun e=>by subst e;simp at hj)
  exact (hrow hk).2.cell j hj
 ·cases e
  have:=(hrow (by omega)).1
  cases this
  exact lrf _
theorem KS {P:Program} (W X:World) (hbW:Below W.1.size W X) (t ty e:TypeId) (z bytes:Nat) (zv:Value) (ht:P.underlying t=some (.slice e)) (hinf:(P.info? e).map (fun i=>(i.zero,i.size,i.bytes))=some (some zv,z,bytes)) (hz:0<z) (hzv:zv.cells.size=z)
  (k:Nat) (c:Nat→Value) (h1:∀ j,j<k*z→(c j).oneCell'=true) (v:Value) (h:RwV W k z c v X) (lo2 hi2:Nat) (ad2:Option Addr) (m cap2:Nat) (d:Nat→Value) (hd:SrcRow X lo2 hi2 ad2 (m*z) d) (hkm:0<k∨0<m) (h63:((k+m:Nat):Int)≤9223372036854775807) (hb:(k+m)*bytes≤140737488355328) :
  ∃ v' Y,(Builtin.append_ #[t,t] ty #[v,.slice ad2 m cap2]).run P X=.ok v' Y∧RwV W (k+m) z (XD c (k*z) d) v' Y∧Below W.1.size X Y:=by
 obtain ⟨ad,g,cp,rfl,r,l⟩:=h
 have zX:=hbW.size
 rcases Nat.eq_zero_or_pos m with h0|h0
 ·subst h0
  have hk:0<k:=by omega
  have hcp:0<cp:=ltl hk r.le
  have had:=r.addr hcp
  subst had
  obtain ⟨i0,hi0,hz0,hz1,hz2⟩:=info_parts hinf
  have hs:Src P z t (.slice ad2 0 cap2) 0 [] X:=by
   have:=hd.src (cap:=cap2) hz ht
   rw [Nat.zero_mul] at this
   exact this
  have hrun:=run_append_room_src (P:=P) X t t ty e i0 ht hi0 g 0 k cp (.slice ad2 0 cap2) 0 [] (by rw [hz1];exact hs) r.le (fun j hj=>absurd hj (nlz _)) (fun j hj=>absurd hj (nlz _))
  refine ⟨_,_,hrun,⟨_,g,cp,rfl,⟨fun _=>rfl,r.le,r.room,fun j hj=>?_⟩,l⟩,br _ _⟩
  have hj':j<k*z:=hj
  rw [XD,if_pos hj']
  exact r.cell j hj'
 ·obtain ⟨ad',cap',g',w',hrun,hrw,hf,hg⟩:=KA (P:=P) X t ty e z bytes zv ht hinf hz hzv ad g k cp c r h1 lo2 hi2 ad2 m cap2 d hd h0 h63 hb
  refine ⟨_,w',hrun,⟨ad',g',cap',rfl,hrw,fun _=>?_⟩,hf.below (fun q hq hP=>?_) zX⟩
  ·rcases hg with ⟨h3,rfl⟩|h3
   ·exact l h3
   ·omega
  ·have:=l hP.1
   omega
theorem KW (c d:Nat→Value) (k n z j:Nat) (_hk:k≤n) (_hj:j<(k+1+(n-k))*z):XD (XD c (k*z) d) ((k+1)*z) (fun j=>c (k*z+j)) j=Jc c k z d j:=by
 have e1:(k+1)*z=k*z+z:=by rw [Nat.add_mul,Nat.one_mul]
 unfold XD Jc
 by_cases h1:j<k*z
 ·rw [if_pos (by omega),if_pos h1,if_pos h1]
 ·by_cases h2:j<k*z+z
  ·rw [if_pos (by omega),if_neg h1,if_neg h1,if_pos h2]
  ·rw [if_neg (by omega),if_neg h1,if_neg h2]
   exact congrArg c (by omega)
theorem ZY {P:Program} {ops:Array Oper} {Q:Exit→Act→World→Prop} {i:Nat} {K:Act→World→Prop} {a:Act} {w:World} {o:Oper} (ho:ops[i]? = some o) (hg:o.guard=none) (s x:Operand) (t tx:TypeId)
  (hop:o.op=.call { callee:=.builtin .append,args:=#[s,x],argTypes:=#[t,tx] }) {v xv v2:Value} {w2:World} (hs:a.eval s=v) (hx:a.eval x=xv) (hr:(Builtin.append_ #[t,tx] o.type #[v,xv]).run P w=.ok v2 w2) (h:K (a.put o.dst v2) w2):wpOp P ops Q i K a w:=
 YG ho hg s x t tx hop v xv v2 w2 hs hx hr h
theorem srcDrop {W:World} {ad:Option Addr} {n cap k:Nat} {s:Nat→Int} {lo hi:Nat} (hs:SrcRow W lo hi ad (n*1) (inC s)) (hkn:k≤n) (hcap:n≤cap):SrcRow W lo hi (if cap=k then ad else Option.map (fun x=>x.add k) ad) ((n-k)*1) (fun j=>inC s (k*1+j)):=by
 refine ⟨fun j hj=>?_,fun _ _=>rfl⟩
 have h1:¬cap=k:=by omega
 obtain ⟨b,off,e1,e2,e3,e4⟩:=hs.at_ (k*1+j) (by omega)
 rw [if_neg h1]
 subst e1
 exact ⟨b,off+k,by simp [Addr.add],e2,e3,by rw [Nat.add_assoc];rw [Nat.mul_one] at e4 ⊢;exact e4⟩
def addPV (ad:Option Addr) (n cap k:Nat) (x:Int) (s:Nat→Int) (lo hi:Nat) (W:World) (i:Nat) (v:Value):Prop:=
 match i with
 | 0=>∃ b,v=.slice (some ⟨b,0,none⟩) 0 0
 | 1=>v=.slice ad n cap
 | 2=>v=.int .i64 (k:Nat)
 | 3=>v=.slice ad k cap
 | 5=>v=.int .i64 x
 | 8=>v=.slice ad n cap
 | 9=>v=.int .i64 (k:Nat)
 | 10=>∃ ad2 cap2,v=.slice ad2 (n-k) cap2∧SrcRow W lo hi ad2 ((n-k)*1) (fun j=>inC s (k*1+j))
 | _=>True
set_option maxRecDepth 100000 in
theorem Eb (p2 p3 p4 p6 p7 p8 p9 ze zc za zd zi zj zg zh zn zm zo zp zq yb yf ye z9 yd z8 z0 zu zy zt w0 w1 w2 w3 w4 w5 w6 w7 w8 w9 w10 w11:Value) (ad:Option Addr) (n cap k:Nat) (x:Int) (s:Nat→Int) (lo hi:Nat) (W:World) (hkn:k≤n) (hn:n≤1000) (hcap:n≤cap) (hhi:hi≤W.1.size) (hs:SrcRow W lo hi ad (n*1) (inC s)) (Q:Exit→Act→World→Prop)
  (hQ:∀ (t:Nat→Value) (v3:Value) X,RwV W (k+1+(n-k)) 1 (XD (XD (inC s) (k*1) (fun _=>.int .i64 x)) ((k+1)*1) (fun j=>inC s (k*1+j))) v3 X→Below W.1.size W X→Q .normal ⟨#[.slice ad n cap,.int .i64 x,p2,p3,v3,.int .i64 (k:Nat),p6,p7,p8,p9,ze,zc,za,zd,zi,zj,zg,zh,zn,zm,zo,zp,zq,yb,yf,ye,z9,yd,z8,z0,zu,zy,zt,t 0,t 1,t 2,t 3,t 4,t 5,t 6,t 7,t 8,t 9,t 10,t 11],[]⟩ X) :
  Code.wp Tryz.prog (Code.region 6 #[⟨some 33,.buildSlice 27 0 #[],27,Gy,#[],none⟩,⟨some 34,.move (.tmp 0),27,Gy,#[],none⟩,⟨some 35,.move (.tmp 5),3,Gy,#[],none⟩,⟨some 36,.slice 27 (.tmp 34) none (some (.tmp 35)) none,27,Gy,#[⟨1,.data⟩,⟨2,.data⟩],none⟩,⟨some 37,.call ⟨.builtin .append,#[.tmp 33,.tmp 36],#[27,27]⟩,27,Gy,#[⟨0,.data⟩,⟨3,.data⟩],none⟩,⟨some 38,.move (.tmp 1),3,Gy,#[],none⟩,⟨some 39,.buildSlice 27 1 #[(0,.tmp 38)],27,Gy,#[⟨5,.data⟩],none⟩,⟨some 40,.call ⟨.builtin .append,#[.tmp 37,.tmp 39],#[27,27]⟩,27,Gy,#[⟨4,.data⟩,⟨6,.data⟩,⟨4,.chain⟩],none⟩,⟨some 41,.move (.tmp 0),27,Gy,#[],none⟩,⟨some 42,.move (.tmp 5),3,Gy,#[],none⟩,⟨some 43,.slice 27 (.tmp 41) (some (.tmp 42)) none none,27,Gy,#[⟨8,.data⟩,⟨9,.data⟩],none⟩,⟨some 44,.call ⟨.builtin .append,#[.tmp 40,.tmp 43],#[27,27]⟩,27,Gy,#[⟨7,.data⟩,⟨10,.data⟩,⟨7,.chain⟩],none⟩,⟨some 4,.assign (.tmp 44),27,Gy,#[⟨11,.data⟩,⟨11,.chain⟩,⟨0,.phase⟩,⟨1,.phase⟩,⟨2,.phase⟩,⟨3,.phase⟩,⟨4,.phase⟩,⟨5,.phase⟩,⟨6,.phase⟩,⟨7,.phase⟩,⟨8,.phase⟩,⟨9,.phase⟩,⟨10,.phase⟩,⟨11,.phase⟩],none⟩] true) Q ⟨#[.slice ad n cap,.int .i64 x,p2,p3,p4,.int .i64 (k:Nat),p6,p7,p8,p9,ze,zc,za,zd,zi,zj,zg,zh,zn,zm,zo,zp,zq,yb,yf,ye,z9,yd,z8,z0,zu,zy,zt,w0,w1,w2,w3,w4,w5,w6,w7,w8,w9,w10,w11],[]⟩ W:=by
 refine PD (by kernel_rfl) 12 4 6 7 11 (by decide) (Wt rfl) (Wt rfl) (Wt rfl) (fun t:Nat→Value=>#[.slice ad n cap,.int .i64 x,p2,p3,p4,.int .i64 (k:Nat),p6,p7,p8,p9,ze,zc,za,zd,zi,zj,zg,zh,zn,zm,zo,zp,zq,yb,yf,ye,z9,yd,z8,z0,zu,zy,zt,t 0,t 1,t 2,t 3,t 4,t 5,t 6,t 7,t 8,t 9,t 10,t 11]) (fun i=>match i with|0=>w0|1=>w1|2=>w2|3=>w3|4=>w4|5=>w5|6=>w6|7=>w7|8=>w8|9=>w9|10=>w10|_=>w11) (addPV ad n cap k x s lo hi W)
  (RwV W k 1 (inC s)) (ElV W 1 (fun _=>.int .i64 x)) (RwV W (k+1) 1 (XD (inC s) (k*1) (fun _=>.int .i64 x))) (RwV W (k+1+(n-k)) 1 (XD (XD (inC s) (k*1) (fun _=>.int .i64 x)) ((k+1)*1) (fun j=>inC s (k*1+j)))) (fun ac X=>∃ (t:Nat→Value) (v3:Value),ac=⟨#[.slice ad n cap,.int .i64 x,p2,p3,v3,.int .i64 (k:Nat),p6,p7,p8,p9,ze,zc,za,zd,zi,zj,zg,zh,zn,zm,zo,zp,zq,yb,yf,ye,z9,yd,z8,z0,zu,zy,zt,t 0,t 1,t 2,t 3,t 4,t 5,t 6,t 7,t 8,t 9,t 10,t 11],[]⟩∧RwV W (k+1+(n-k)) 1 (XD (XD (inC s) (k*1) (fun _=>.int .i64 x)) ((k+1)*1) (fun j=>inC s (k*1+j))) v3 X∧Below W.1.size W X) (by kernel_rfl) (by kernel_rfl) (by kernel_rfl) (fun _ _ _ h hb=>h.grow hb) (fun _ _ _ h hb=>h.grow hb) (fun _ _ _ h hb=>h.grow hb) (fun _ _ _ h hb=>h.grow hb) (fun _ _ _ _ h hk=>h.lt hk) (fun _ _ _ h=>h.lt) rfl ?_ ?_ ?_ ?_ ?_ ?_ ?_
 ·intro i hi1 h4 h6 h7 h11 t X K hb hg hK
  rcases (show i=0∨i=1∨i=2∨i=3∨i=5∨i=8∨i=9∨i=10 by omega) with rfl|rfl|rfl|rfl|rfl|rfl|rfl|rfl
  ·have h:=hK (.slice (some ⟨X.1.size,0,none⟩) 0 0) (X.alloc (.cells #[] 3)) ⟨_,rfl⟩ (Zb _ _)
   refine Zi rfl rfl ?_
   clear hK hg
   go_simp
   simpa [updT] using h
  ·exact sg
  ·exact sg
  ·have e1:t 1=.slice ad n cap:=hg 1 (Wt rfl)
   have e2:t 2=.int .i64 (k:Nat):=hg 2 (Wt rfl)
   have h:=hK _ X rfl (br _ _)
   refine Zi rfl rfl ?_
   clear hK hg
   simp only [e1,e2]
   go_simp
   rw [if_pos (by omega),Oper.upon_value]
   go_simp
   simpa [updT,e1,e2] using h
  ·exact sg
  ·exact sg
  ·exact sg
  ·have e8:t 8=.slice ad n cap:=hg 8 (Wt rfl)
   have e9:t 9=.int .i64 (k:Nat):=hg 9 (Wt rfl)
   have h:=hK (.slice (if cap=k then ad else Option.map (fun x=>x.add k) ad) (n-k) (cap-k)) X ⟨_,_,rfl,srcDrop hs hkn hcap⟩ (br _ _)
   refine Zi rfl rfl ?_
   clear hK hg
   simp only [e8,e9]
   go_simp
   simpa [updT,e8,e9] using h
 ·intro t X K hb hg hK
  obtain ⟨b0,e0⟩:∃ b,t 0=.slice (some ⟨b,0,none⟩) 0 0:=hg 0 (Wt rfl)
  have e3:t 3=.slice ad k cap:=hg 3 (Wt rfl)
  obtain ⟨v,Y,hrun,hrw,hnew,hbY⟩:=Oj (P:=Tryz.prog) W X hb 27 27 3 1 8 (.int .i64 0) Tryz.underlying27 Tryz.info3 (by omega) rfl lo hi b0 ad k cap (inC s) ((hs.belowR hb hhi).take (by omega)) (by omega) (by omega)
  exact ZY rfl rfl (.tmp 33) (.tmp 36) 27 27 rfl (by exact e0) (by exact e3) hrun (hK v Y trivial hrw hnew hbY)
 ·intro t X K hb hg hK
  have e5:t 5=.int .i64 x:=hg 5 (Wt rfl)
  have h:=hK (.slice (some ⟨X.1.size,0,none⟩) 1 1) (X.alloc (.cells #[.int .i64 x] 3)) trivial ⟨X.1.size,rfl,hb.size,by simp,⟨fun j hj=>by
   obtain rfl:j=0:=by omega
   exact ⟨X.1.size,0,rfl,lrf _,Nat.lt_succ_self _,by simp⟩,fun _ _=>rfl⟩⟩ (fun h m e=>by cases e;exact lrf _) (Zb _ _)
  refine Zi rfl rfl ?_
  clear hK hg
  simp only [e5]
  go_simp
  simpa [updT,e5] using h
 ·intro t X K hb hg ra rb _ hK
  obtain ⟨b6,e6,_,_,s6⟩:=rb
  obtain ⟨v,Y,hrun,hrw,hbY⟩:=KS (P:=Tryz.prog) W X hb 27 27 3 1 8 (.int .i64 0) Tryz.underlying27 Tryz.info3 (by omega) rfl k (inC s) (fun _ _=>rfl) (t 4) ra b6 (b6+1) (some ⟨b6,0,none⟩) 1 1 (fun _=>.int .i64 x) s6 (Or.inr (by omega)) (by omega) (by omega)
  exact ZY rfl rfl (.tmp 37) (.tmp 39) 27 27 rfl rfl (by exact e6) hrun (hK v Y trivial hrw hbY)
 ·intro t X K hb hg rc hK
  obtain ⟨ad2,cap2,e10,s10⟩:∃ ad2 cap2,t 10=.slice ad2 (n-k) cap2∧SrcRow W lo hi ad2 ((n-k)*1) (fun j=>inC s (k*1+j)):=hg 10 (Wt rfl)
  obtain ⟨v,Y,hrun,hrw,hbY⟩:=KS (P:=Tryz.prog) W X hb 27 27 3 1 8 (.int .i64 0) Tryz.underlying27 Tryz.info3 (by omega) rfl (k+1) (XD (inC s) (k*1) (fun _=>.int .i64 x)) (fun j _=>by unfold XD;split<;>rfl) (t 7) rc lo hi ad2 (n-k) cap2 (fun j=>inC s (k*1+j)) (s10.belowR hb hhi) (Or.inl (by omega)) (by omega) (by omega)
  exact ZY rfl rfl (.tmp 40) (.tmp 43) 27 27 rfl rfl (by exact e10) hrun (hK v Y trivial hrw hbY)
 ·intro t X K hb hg rd hK
  have h:=hK ⟨#[.slice ad n cap,.int .i64 x,p2,p3,t 11,.int .i64 (k:Nat),p6,p7,p8,p9,ze,zc,za,zd,zi,zj,zg,zh,zn,zm,zo,zp,zq,yb,yf,ye,z9,yd,z8,z0,zu,zy,zt,t 0,t 1,t 2,t 3,t 4,t 5,t 6,t 7,t 8,t 9,t 10,t 11],[]⟩ X ⟨t,t 11,rfl,rd,hb⟩
  refine Zi rfl rfl ?_
  clear hK hg
  go_simp
  simpa using h
 ·rintro ac X ⟨t,v3,rfl,h1,h2⟩
  exact hQ t v3 X h1 h2
set_option maxRecDepth 100000 in
theorem KE (n:Nat) (s:Nat→Int) (ad:Option Addr) (cap g:Nat) (x:Int) (w:World) (hn:n≤999) (hcap:n≤cap) (hg:0<n→g<w.1.size) (ho:IntsOwn w g (g+1) ad n s) :
  Calls Tryz.prog 83 #[.slice ad n cap,.int .i64 x] w fun e w'=>PA w g n s x e w':=by
 have HO:=hid ho
 clear ho
 go_enter Tryz.func83,Tryz.ntmps83
 go_wp2
 go_loopw [5] (fun i wr=>∃ k:Nat,k≤n∧i=.int .i64 k∧wr=w∧∀ j,j<k→s j<x) (fun i _=>n-(intOf i).toNat)
 case atStart=>exact ⟨0,zle _,rfl,rfl,fun j hj=>absurd hj (nlz _)⟩
 case round=>
  obtain ⟨k,hk,rfl,rfl,hlt⟩:=hrel
  have H1:=hid hlt
  clear hlt
  by_cases hkn:k<n
  ·obtain ⟨b,off,e,h1,h2,hc,_⟩:=HO.out k hkn
   by_cases hs:s k<x
   ·have HN:=hid (show ∀ j,j<k+1→s j<x from fun j hj=>by
     rcases Nat.lt_or_ge j k with h3|h3
     ·exact H1.out j h3
     ·obtain rfl:j=k:=by omega
      exact hs)
    rw [e]
    generalize s k=dd at *
    go_wp2
    go_roundw
    case rel=>exact ⟨k+1,by omega,by go_num,by first|rfl|trivial,HN.out⟩
    case measure=>simp [intOf];omega
   ·have HK:=hid (Ks (s:=s) (x:=x) hk H1.out (fun _=>by omega))
    by_cases he:s k=x
    ·have HE:=hid (show XN n s x=true by unfold XN;rw [←HK.out];simp [hkn,he])
     have HNF:=hid (show Zy n s x=n∧ZJ n s x=s by unfold Zy ZJ;rw [HE.out];exact ⟨rfl,rfl⟩)
     have hlt0:=hg (by omega)
     rw [e]
     rw [he] at hc
     clear he hs
     go_wp2
     go_ret
     unfold PA
     rw [HNF.out.1,HNF.out.2,←e]
     exact ⟨_,_,g,rfl,HO.out,hlt0,Or.inl ⟨rfl,by omega⟩,br _ _⟩
    ·have HE:=hid (show XN n s x=false by unfold XN;rw [←HK.out];simp [he])
     have HNF:=hid (show Zy n s x=n+1∧ZJ n s x=U8 s k x by unfold Zy ZJ;rw [HE.out,←HK.out];exact ⟨rfl,rfl⟩)
     have hz:(s k==x)=false:=by simp;exact he
     have hlt0:=hg (by omega)
     have SR:=hid HO.out.srcR
     rw [e] at SR ⊢
     generalize s k=dd at *
     clear he
     go_wp2
     refine Eb _ _ _ _ _ _ _ _ _ _ _ _ _ _ _ _ _ _ _ _ _ _ _ _ _ _ _ _ _ _ _ _ _ _ _ _ _ _ _ _ _ _ _ n cap k x s g (g+1) wr (by omega) (by omega) hcap (by omega) SR.out _ ?_
     intro t v3 X hrw hbX
     obtain ⟨ad3,g3,cp3,rfl,hrow,hge⟩:=hrw
     have HR:=hid hrow
     have HB:=hid hbX
     clear hrow hbX
     go_wp2
     go_ret
     unfold PA
     rw [HNF.out.1,HNF.out.2]
     have hcp:0<cp3:=ltl (by omega) HR.out.le
     have hrm:=HR.out.room hcp
     have had:=HR.out.addr hcp
     subst had
     exact ⟨some ⟨g3,0,none⟩,cp3,g3,by rw [show k+1+(n-k)=n+1 by omega];rfl,fun i hi=>⟨g3,0,rfl,lrf _,Nat.lt_succ_self _,by rw [Nat.zero_add,HR.out.cell i (by omega),KW _ _ _ _ _ _ (by omega) (by omega),Kw],hrm.free _⟩,hrm.lt,Or.inr (hge hcp),HB.out⟩
  ·obtain rfl:k=n:=by omega
   have HK:=hid (Ks (s:=s) (x:=x) (lrf k) H1.out (fun h=>absurd h (Nat.lt_irrefl _)))
   have HE:=hid (show XN k s x=false by unfold XN;rw [←HK.out];simp)
   have HNF:=hid (show Zy k s x=k+1∧ZJ k s x=U8 s k x by unfold Zy ZJ;rw [HE.out,←HK.out];exact ⟨rfl,rfl⟩)
   have SR:=hid HO.out.srcR
   obtain ⟨lo,hi,hhi,SR2⟩:∃ lo hi,hi≤wr.1.size∧SrcRow wr lo hi ad (k*1) (inC s):=by
    rcases Nat.eq_zero_or_pos k with h0|h0
    ·subst h0
     exact ⟨0,0,zle _,⟨fun j hj=>absurd hj (by omega),fun _ _=>rfl⟩⟩
    ·exact ⟨g,g+1,hg h0,SR.out⟩
   have S2:=hid SR2
   clear SR SR2
   go_wp2
   refine Eb _ _ _ _ _ _ _ _ _ _ _ _ _ _ _ _ _ _ _ _ _ _ _ _ _ _ _ _ _ _ _ _ _ _ _ _ _ _ _ _ _ _ ad k cap k x s lo hi wr (lrf _) (by omega) hcap hhi S2.out _ ?_
   intro t v3 X hrw hbX
   obtain ⟨ad3,g3,cp3,rfl,hrow,hge⟩:=hrw
   have HR:=hid hrow
   have HB:=hid hbX
   clear hrow hbX
   go_wp2
   go_ret
   unfold PA
   rw [HNF.out.1,HNF.out.2]
   have hcp:0<cp3:=ltl (by omega) HR.out.le
   have hrm:=HR.out.room hcp
   have had:=HR.out.addr hcp
   subst had
   exact ⟨some ⟨g3,0,none⟩,cp3,g3,by rw [show k+1+(k-k)=k+1 by omega];rfl,fun i hi=>⟨g3,0,rfl,lrf _,Nat.lt_succ_self _,by rw [Nat.zero_add,HR.out.cell i (by omega),KW _ _ _ _ _ _ (by omega) (by omega),Kw],hrm.free _⟩,hrm.lt,Or.inr (hge hcp),HB.out⟩
def OQ (s q g n cap k:Nat) (a:Option Addr) (c:Nat) (y:Ak) (W:World) (i:Nat) (v:Value) (X:World):Prop:=
 match i with
 | 0=>v=.pointer (some ⟨s,16,none⟩)
 | 1=>v=.slice (some ⟨g,0,none⟩) n cap
 | 2=>v=.int .i64 k
 | 3=>v=.pointer (some ⟨q,1,none⟩)
 | 4=>v=.slice a y.n c
 | 5=>∃ ad' cap' b',v=.slice ad' y.n cap'∧W.1.size≤b'∧(y.n≠0→b'<X.1.size)∧(IntsOwn X b' (b'+1) ad' y.n y.s∧cap'=y.n)
 | 6=>v=.pointer (some ⟨g,k*2,none⟩)
 | 7=>v=.pointer (some ⟨g,k*2+1,none⟩)
 | _=>True
theorem Gm {P:Prop} (h:P:=by
  have h:=hK _ X rfl (br _ _)
  refine Zi rfl rfl ?_
  clear hK hg1
  go_simp
  simpa [updT] using h):P:=h
set_option maxRecDepth 100000 in
theorem Px (p0 p2 p5 p6 p7 p8 p9 ze zc za zd zi zj zg zh zn zm zo zp zq yb yf ye z9 yd z8 z0 zu zy zt yg yi yj yh yk ym yo yr j8 j5 v0 v1 v2 v3 v4 v5 v6 v7:Value) (s q g n cap k:Nat) (a:Option Addr) (c:Nat) (y:Ak) (W:World) (lo hi:Nat) (h1:W.cell? ⟨s,16,none⟩=some (.slice (some ⟨g,0,none⟩) n cap)) (h2:W.cell? ⟨q,1,none⟩=some (.slice a y.n c)) (hs:s<W.1.size) (hq:q<W.1.size) (hg:g<W.1.size) (hhi:hi≤W.1.size) (hl:(y.n:Int)≤1048576) (_hl2:(n:Int)≤1048576) (hin:IntsIn W lo hi a y.n y.s) (hk:k<n) (u:Value) (hu:W.cell? ⟨g,k*2+1,none⟩=some u) (hfz:W.frozen? ⟨g,k*2+1,none⟩=false) (Q:Exit→Act→World→Prop)
  (hQ:∀ (t:Nat→Value) (ad':Option Addr) (cap' b':Nat) (Y:World),W.1.size≤b'→(y.n≠0→b'<Y.1.size)→(IntsOwn Y b' (b'+1) ad' y.n y.s∧cap'=y.n)→Below W.1.size W Y→Q .normal ⟨#[p0,.pointer (some ⟨s,0,none⟩),p2,.int .i64 k,.pointer (some ⟨q,0,none⟩),p5,p6,p7,p8,p9,ze,zc,za,zd,zi,zj,zg,zh,zn,zm,zo,zp,zq,yb,yf,ye,z9,yd,z8,z0,zu,zy,zt,yg,yi,yj,yh,yk,ym,yo,yr,t 0,t 1,t 2,t 3,t 4,t 5,t 6,t 7,j8,j5],[]⟩ (Y.setCell ⟨g,k*2+1,none⟩ (.slice ad' y.n cap'))) :
  Code.wp Tryz.prog (Code.region 11 #[⟨some 41,.fieldAddr 38 (.tmp 1) 12,0,Gz,#[],none⟩,⟨some 42,.load 36 (.tmp 41),36,Gz,#[⟨0,.data⟩],none⟩,⟨some 43,.move (.tmp 3),3,Gz,#[],none⟩,⟨some 44,.fieldAddr 108 (.tmp 4) 1,0,Gz,#[],none⟩,⟨some 45,.load 27 (.tmp 44),27,Gz,#[⟨3,.data⟩],none⟩,⟨some 46,.call ⟨.value (.func 102),#[.tmp 45],#[27]⟩,27,Gz,#[⟨4,.data⟩],none⟩,⟨some 47,.indexAddr 36 (.tmp 42) (.tmp 43),0,Gz,#[⟨1,.data⟩,⟨2,.data⟩,⟨0,.phase⟩,⟨1,.phase⟩,⟨2,.phase⟩,⟨3,.phase⟩,⟨4,.phase⟩,⟨5,.phase⟩],none⟩,⟨some 48,.fieldAddr 108 (.tmp 47) 1,0,Gz,#[⟨6,.data⟩,⟨0,.phase⟩,⟨1,.phase⟩,⟨2,.phase⟩,⟨3,.phase⟩,⟨4,.phase⟩,⟨5,.phase⟩],none⟩,⟨none,.store 27 (.tmp 48) (.tmp 46),0,Gz,#[⟨7,.data⟩,⟨5,.data⟩,⟨5,.chain⟩,⟨0,.phase⟩,⟨1,.phase⟩,⟨2,.phase⟩,⟨3,.phase⟩,⟨4,.phase⟩,⟨5,.phase⟩],none⟩] true) Q ⟨#[p0,.pointer (some ⟨s,0,none⟩),p2,.int .i64 k,.pointer (some ⟨q,0,none⟩),p5,p6,p7,p8,p9,ze,zc,za,zd,zi,zj,zg,zh,zn,zm,zo,zp,zq,yb,yf,ye,z9,yd,z8,z0,zu,zy,zt,yg,yi,yj,yh,yk,ym,yo,yr,v0,v1,v2,v3,v4,v5,v6,v7,j8,j5],[]⟩ W:=by
 refine ZL (by kernel_rfl) 8 (fun t:Nat→Value=>#[p0,.pointer (some ⟨s,0,none⟩),p2,.int .i64 k,.pointer (some ⟨q,0,none⟩),p5,p6,p7,p8,p9,ze,zc,za,zd,zi,zj,zg,zh,zn,zm,zo,zp,zq,yb,yf,ye,z9,yd,z8,z0,zu,zy,zt,yg,yi,yj,yh,yk,ym,yo,yr,t 0,t 1,t 2,t 3,t 4,t 5,t 6,t 7,j8,j5]) (fun j=>match j with|0=>v0|1=>v1|2=>v2|3=>v3|4=>v4|5=>v5|6=>v6|_=>v7) (OQ s q g n cap k a c y W) (fun a1 X=>∃ (t:Nat→Value) (ad':Option Addr) (cap' b':Nat) (Y:World),a1=⟨#[p0,.pointer (some ⟨s,0,none⟩),p2,.int .i64 k,.pointer (some ⟨q,0,none⟩),p5,p6,p7,p8,p9,ze,zc,za,zd,zi,zj,zg,zh,zn,zm,zo,zp,zq,yb,yf,ye,z9,yd,z8,z0,zu,zy,zt,yg,yi,yj,yh,yk,ym,yo,yr,t 0,t 1,t 2,t 3,t 4,t 5,t 6,t 7,j8,j5],[]⟩∧X=Y.setCell ⟨g,k*2+1,none⟩ (.slice ad' y.n cap')∧W.1.size≤b'∧(y.n≠0→b'<Y.1.size)∧(IntsOwn Y b' (b'+1) ad' y.n y.s∧cap'=y.n)∧Below W.1.size W Y) (by kernel_rfl) (by kernel_rfl) (by kernel_rfl) ?_ rfl ?_ ?_ ?_
 ·intro i v X Y hi1 h hb
  rcases (show i=0∨i=1∨i=2∨i=3∨i=4∨i=5∨i=6∨i=7 by omega) with rfl|rfl|rfl|rfl|rfl|rfl|rfl|rfl
  ·exact h
  ·exact h
  ·exact h
  ·exact h
  ·exact h
  ·obtain ⟨ad',cap',b',e1,e2,e3,e4⟩:=h
   exact ⟨ad',cap',b',e1,e2,fun h0=>ltl (e3 h0) hb.size,⟨e4.1.frP (FrP.of_below (P:=fun _=>False) hb) (fun h0=>⟨fun h=>h,e3 h0⟩),e4.2⟩⟩
  ·exact h
  ·exact h
 ·intro i hi1 t X K hb hg1 hK
  rcases (show i=0∨i=1∨i=2∨i=3∨i=4∨i=5∨i=6∨i=7 by omega) with rfl|rfl|rfl|rfl|rfl|rfl|rfl|rfl
  ·exact Gm
  ·have e0:t 0=.pointer (some ⟨s,16,none⟩):=hg1 0 (Wt rfl)
   have f1:=(hb.cell (p:=⟨s,16,none⟩) hs).trans h1
   have h:=hK _ X rfl (br _ _)
   refine Zi rfl rfl ?_
   clear hK hg1
   go_simp
   simpa [updT,e0] using h
  ·exact Gm
  ·exact Gm
  ·have e3:t 3=.pointer (some ⟨q,1,none⟩):=hg1 3 (Wt rfl)
   have f1:=(hb.cell (p:=⟨q,1,none⟩) hq).trans h2
   have h:=hK _ X rfl (br _ _)
   refine Zi rfl rfl ?_
   clear hK hg1
   go_simp
   simpa [updT,e3] using h
  ·have e4:t 4=.slice a y.n c:=hg1 4 (Wt rfl)
   refine Zi rfl rfl ?_
   have HK:=hid hK
   have HI:=hid (hin.below hb hhi)
   clear hK hg1 hin
   go_simp
   go_at_call 102
   refine (Ki y.n y.s a c X lo hi (ltr hhi hb.size) (by omega) HI.out).mono ?_
   rintro e Y ⟨ad',rfl,ho,hlt,hbY,_⟩
   have h:=HK.out _ Y ⟨ad',y.n,X.1.size,rfl,hb.size,hlt,ho,rfl⟩ hbY
   simpa [updT,e4] using h
  ·have e1:t 1=.slice (some ⟨g,0,none⟩) n cap:=hg1 1 (Wt rfl)
   have e2:t 2=.int .i64 k:=hg1 2 (Wt rfl)
   have h:=hK _ X rfl (br _ _)
   refine Zi rfl rfl ?_
   clear hK hg1
   go_simp
   simpa [updT,e1,e2] using h
  ·have e6:t 6=.pointer (some ⟨g,k*2,none⟩):=hg1 6 (Wt rfl)
   have h:=hK _ X rfl (br _ _)
   refine Zi rfl rfl ?_
   clear hK hg1
   go_simp
   simpa [updT,e6] using h
 ·intro t X K hb hg1 hK
  have e7:t 7=.pointer (some ⟨g,k*2+1,none⟩):=hg1 7 (by omega)
  obtain ⟨ad',cap',b',e5,k1,k2,k3,rfl⟩:∃ ad' cap' b',t 5=.slice ad' y.n cap'∧W.1.size≤b'∧(y.n≠0→b'<X.1.size)∧(IntsOwn X b' (b'+1) ad' y.n y.s∧cap'=y.n):=hg1 5 (by omega)
  have f1:=(hb.cell (p:=⟨g,k*2+1,none⟩) hg).trans hu
  have f2:=(hb.frozen (p:=⟨g,k*2+1,none⟩) hg).trans hfz
  have h:=hK _ (X.setCell ⟨g,k*2+1,none⟩ (.slice ad' y.n y.n)) ⟨t,ad',y.n,b',X,rfl,rfl,k1,k2,⟨k3,rfl⟩,hb⟩
  refine Zi rfl rfl ?_
  clear hK hg1
  go_simp
  simpa [e7,e5] using h
 ·rintro a1 X ⟨t,ad',cap',b',Y,rfl,rfl,k1,k2,k3,k4⟩
  exact hQ t ad' cap' b' Y k1 k2 k3 k4
set_option maxRecDepth 100000 in
theorem Iq (r:Rc) (A:RcA) (w:World) (lo hi:Nat) (hhi:hi≤w.1.size) (hm:ZW r) (hc:RcIn w lo hi r A) :
  Calls Tryz.prog 48 #[rcV r A] w fun e w'=>∃ p:RcP,e=.returned (rcV r p.A)∧RcAt w' r p∧JB r p.A∧(∀ k,rbs p r k→w.1.size≤k)∧Below w.1.size w w'∧(∀ i,i<r.an→p.AC i=(r.as_ i).n)∧(r.bn=0→p.A.ba=none):=by
 have HM:=hid hm
 have HI:=hid hc
 obtain ⟨Ao,Co,so,sto⟩:=hc.as_.src
 have SO:=hid so
 have HO:=hid sto
 clear hm hc so sto
 go_enter Tryz.func48,Tryz.ntmps48
 go_wp2_with fail
 refine (Kj r.sf A.sa A.sc _ lo hi (by simp;omega) (by have:=HM.out.sf;omega) (HI.out.below (B:=w.1.size) (((br _ _).alloc (lrf _) _).alloc (by simp) _) hhi).sf).mono ?_
 rintro e w1 ⟨a0,g0,rfl,o0,l0,hb0,_⟩
 simp only [World.size_alloc] at o0 l0
 have hB0:Below w.1.size w w1:=(((br _ _).alloc (lrf _) _).alloc (by simp) _).trans (hb0.mono (by simp;omega))
 obtain ⟨P1,R1,F1,F2⟩:=Xt hb0
 have hz1:w.1.size+1+1≤w1.1.size:=by have:=hb0.size;simp at this;omega
 have Q0:Bx w1 w.1.size #[.int .i64 r.num,.int .i64 r.of,.bool r.up,.int .i64 r.sf.pr,.int .i64 r.sf.kn,.slice A.sa r.sf.n A.sc,.int .i64 r.dk.pr,.int .i64 r.dk.kn,.slice A.da r.dk.n A.dc,.slice A.ha r.hn A.hc,.slice A.wa r.wn A.wc,.bool r.ld,.bool r.tr,.int .i64 r.bal,.slice A.ya r.yn A.yc,.slice A.ba r.bn A.bc,.slice A.aa r.an A.ac,.int .i64 r.hd]:=⟨P1,F1,by omega⟩
 have Z0:Bx w1 (w.1.size+1) #[.int .i64 0,.int .i64 0,.bool false,.int .i64 0,.int .i64 0,.slice none 0 0,.int .i64 0,.int .i64 0,.slice none 0 0,.slice none 0 0,.slice none 0 0,.bool false,.bool false,.int .i64 0,.slice none 0 0,.slice none 0 0,.slice none 0 0,.int .i64 0]:=⟨R1,F2,by omega⟩
 clear hb0 P1 R1 F1 F2
 have O0_0:=hid o0
 have L0:=hid l0
 clear o0 l0
 have hBV0:Below w.1.size w (((w1.setCell ⟨w.1.size,3,none⟩ (.int .i64 r.sf.pr)).setCell ⟨w.1.size,4,none⟩ (.int .i64 r.sf.kn)).setCell ⟨w.1.size,5,none⟩ (.slice a0 r.sf.n r.sf.n)):=(((hB0.setCell (p:=⟨w.1.size,3,none⟩) (lrf _) (.int .i64 r.sf.pr)).setCell (p:=⟨w.1.size,4,none⟩) (lrf _) (.int .i64 r.sf.kn)).setCell (p:=⟨w.1.size,5,none⟩) (lrf _) (.slice a0 r.sf.n r.sf.n))
 obtain ⟨p0,p1,p2,p3,p4,p5,p6,p7,p8,p9,ze,zc,za,zd,zi,zj,zg,zh⟩:=Ze Q0.cell
 have qf:=Q0.free
 go_wp2_with fail
 refine (Kj r.dk A.da A.dc _ lo hi (by simp only [World.size_setCell];omega) (by have:=HM.out.dk;omega) (HI.out.below (B:=w.1.size) hBV0 hhi).dk).mono ?_
 clear p0 p1 p2 p3 p4 p5 p6 p7 p8 p9 ze zc za zd zi zj zg zh qf
 rintro e w2 ⟨a1,g1,rfl,o1,l1,hb1,n1⟩
 simp only [World.size_setCell] at o1 l1
 have hx1:Below w1.1.size (((w1.setCell ⟨w.1.size,3,none⟩ (.int .i64 r.sf.pr)).setCell ⟨w.1.size,4,none⟩ (.int .i64 r.sf.kn)).setCell ⟨w.1.size,5,none⟩ (.slice a0 r.sf.n r.sf.n)) w2:=hb1.mono (by simp only [World.size_setCell];exact lrf _)
 have fr1:FrP (fun q=>q=w.1.size) w1 w2:=((((FrP.refl (fun q=>q=w.1.size) w1).setCell (p:=⟨w.1.size,3,none⟩) rfl (.int .i64 r.sf.pr)).setCell (p:=⟨w.1.size,4,none⟩) rfl (.int .i64 r.sf.kn)).setCell (p:=⟨w.1.size,5,none⟩) rfl (.slice a0 r.sf.n r.sf.n)).trans (FrP.of_below (hx1.mono (by simp only [World.size_setCell];exact lrf _)))
 have hB1:Below w.1.size w w2:=hBV0.trans (hx1.mono (by omega))
 have hz2:w1.1.size≤w2.1.size:=fr1.size
 have Q1:Bx w2 w.1.size #[.int .i64 r.num,.int .i64 r.of,.bool r.up,.int .i64 r.sf.pr,.int .i64 r.sf.kn,.slice a0 r.sf.n r.sf.n,.int .i64 r.dk.pr,.int .i64 r.dk.kn,.slice A.da r.dk.n A.dc,.slice A.ha r.hn A.hc,.slice A.wa r.wn A.wc,.bool r.ld,.bool r.tr,.int .i64 r.bal,.slice A.ya r.yn A.yc,.slice A.ba r.bn A.bc,.slice A.aa r.an A.ac,.int .i64 r.hd]:=(((((((Q0).to (J7 (Q0).cell (.int .i64 r.sf.pr)))).to (hset4 (((Q0).to (J7 (Q0).cell (.int .i64 r.sf.pr)))).cell (.int .i64 r.sf.kn)))).to (hset5 (((((Q0).to (J7 (Q0).cell (.int .i64 r.sf.pr)))).to (hset4 (((Q0).to (J7 (Q0).cell (.int .i64 r.sf.pr)))).cell (.int .i64 r.sf.kn)))).cell (.slice a0 r.sf.n r.sf.n)))).below hx1 (by omega)
 have Z1:Bx w2 (w.1.size+1) #[.int .i64 0,.int .i64 0,.bool false,.int .i64 0,.int .i64 0,.slice none 0 0,.int .i64 0,.int .i64 0,.slice none 0 0,.slice none 0 0,.slice none 0 0,.bool false,.bool false,.int .i64 0,.slice none 0 0,.slice none 0 0,.slice none 0 0,.int .i64 0]:=Z0.frP fr1 (by omega)
 have O0_1:=hid (O0_0.out.frP fr1 (fun h0=>⟨by have:=L0.out h0;omega,by have:=L0.out h0;omega⟩))
 clear hb1 hx1 fr1 Q0 Z0 hBV0 hB0 O0_0
 have N1:=hid n1
 clear n1
 have O1_1:=hid o1
 have L1:=hid l1
 clear o1 l1
 have hBV1:Below w.1.size w (((w2.setCell ⟨w.1.size,6,none⟩ (.int .i64 r.dk.pr)).setCell ⟨w.1.size,7,none⟩ (.int .i64 r.dk.kn)).setCell ⟨w.1.size,8,none⟩ (.slice a1 r.dk.n r.dk.n)):=(((hB1.setCell (p:=⟨w.1.size,6,none⟩) (lrf _) (.int .i64 r.dk.pr)).setCell (p:=⟨w.1.size,7,none⟩) (lrf _) (.int .i64 r.dk.kn)).setCell (p:=⟨w.1.size,8,none⟩) (lrf _) (.slice a1 r.dk.n r.dk.n))
 obtain ⟨p0,p1,p2,p3,p4,p5,p6,p7,p8,p9,ze,zc,za,zd,zi,zj,zg,zh⟩:=Ze Q1.cell
 have qf:=Q1.free
 go_wp2_with fail
 refine (copyMss_own r.hn r.hs A.ha A.hc _ lo hi (by simp only [World.size_setCell];omega) HM.out.hn HM.out.hs (HI.out.below (B:=w.1.size) hBV1 hhi).hs).mono ?_
 clear p0 p1 p2 p3 p4 p5 p6 p7 p8 p9 ze zc za zd zi zj zg zh qf
 rintro e w3 ⟨a2,A2,C2,h2,rfl,o2,l2,hb2⟩
 simp only [World.size_setCell] at o2 l2
 have hx2:Below w2.1.size (((w2.setCell ⟨w.1.size,6,none⟩ (.int .i64 r.dk.pr)).setCell ⟨w.1.size,7,none⟩ (.int .i64 r.dk.kn)).setCell ⟨w.1.size,8,none⟩ (.slice a1 r.dk.n r.dk.n)) w3:=hb2.mono (by simp only [World.size_setCell];exact lrf _)
 have fr2:FrP (fun q=>q=w.1.size) w2 w3:=((((FrP.refl (fun q=>q=w.1.size) w2).setCell (p:=⟨w.1.size,6,none⟩) rfl (.int .i64 r.dk.pr)).setCell (p:=⟨w.1.size,7,none⟩) rfl (.int .i64 r.dk.kn)).setCell (p:=⟨w.1.size,8,none⟩) rfl (.slice a1 r.dk.n r.dk.n)).trans (FrP.of_below (hx2.mono (by simp only [World.size_setCell];exact lrf _)))
 have hB2:Below w.1.size w w3:=hBV1.trans (hx2.mono (by omega))
 have hz3:w2.1.size≤w3.1.size:=fr2.size
 have Q2:Bx w3 w.1.size #[.int .i64 r.num,.int .i64 r.of,.bool r.up,.int .i64 r.sf.pr,.int .i64 r.sf.kn,.slice a0 r.sf.n r.sf.n,.int .i64 r.dk.pr,.int .i64 r.dk.kn,.slice a1 r.dk.n r.dk.n,.slice A.ha r.hn A.hc,.slice A.wa r.wn A.wc,.bool r.ld,.bool r.tr,.int .i64 r.bal,.slice A.ya r.yn A.yc,.slice A.ba r.bn A.bc,.slice A.aa r.an A.ac,.int .i64 r.hd]:=(((((((Q1).to (YT (Q1).cell (.int .i64 r.dk.pr)))).to (Jp (((Q1).to (YT (Q1).cell (.int .i64 r.dk.pr)))).cell (.int .i64 r.dk.kn)))).to (hset8 (((((Q1).to (YT (Q1).cell (.int .i64 r.dk.pr)))).to (Jp (((Q1).to (YT (Q1).cell (.int .i64 r.dk.pr)))).cell (.int .i64 r.dk.kn)))).cell (.slice a1 r.dk.n r.dk.n)))).below hx2 (by omega)
 have Z2:Bx w3 (w.1.size+1) #[.int .i64 0,.int .i64 0,.bool false,.int .i64 0,.int .i64 0,.slice none 0 0,.int .i64 0,.int .i64 0,.slice none 0 0,.slice none 0 0,.slice none 0 0,.bool false,.bool false,.int .i64 0,.slice none 0 0,.slice none 0 0,.slice none 0 0,.int .i64 0]:=Z1.frP fr2 (by omega)
 have O0_2:=hid (O0_1.out.frP fr2 (fun h0=>⟨by have:=L0.out h0;omega,by have:=L0.out h0;omega⟩))
 have O1_2:=hid (O1_1.out.frP fr2 (fun h0=>⟨by have:=L1.out h0;omega,by have:=L1.out h0;omega⟩))
 clear hb2 hx2 fr2 Q1 Z1 hBV1 hB1 O0_1 O1_1
 have O2_2:=hid o2
 have L2:=hid l2
 clear o2 l2
 have hBV2:Below w.1.size w (w3.setCell ⟨w.1.size,9,none⟩ (.slice a2 r.hn r.hn)):=(hB2.setCell (p:=⟨w.1.size,9,none⟩) (lrf _) (.slice a2 r.hn r.hn))
 obtain ⟨p0,p1,p2,p3,p4,p5,p6,p7,p8,p9,ze,zc,za,zd,zi,zj,zg,zh⟩:=Ze Q2.cell
 have qf:=Q2.free
 go_wp2_with fail
 refine (copyStrs_own r.wn r.ws A.wa A.wc _ lo hi (by simp only [World.size_setCell];omega) (by have:=HM.out.wn;omega) (HI.out.below (B:=w.1.size) hBV2 hhi).ws).mono ?_
 clear p0 p1 p2 p3 p4 p5 p6 p7 p8 p9 ze zc za zd zi zj zg zh qf
 rintro e w4 ⟨a3,rfl,o3,l3,hb3,_⟩
 simp only [World.size_setCell] at o3 l3
 have hx3:Below w3.1.size (w3.setCell ⟨w.1.size,9,none⟩ (.slice a2 r.hn r.hn)) w4:=hb3.mono (by simp only [World.size_setCell];exact lrf _)
 have fr3:FrP (fun q=>q=w.1.size) w3 w4:=((FrP.refl (fun q=>q=w.1.size) w3).setCell (p:=⟨w.1.size,9,none⟩) rfl (.slice a2 r.hn r.hn)).trans (FrP.of_below (hx3.mono (by simp only [World.size_setCell];exact lrf _)))
 have hB3:Below w.1.size w w4:=hBV2.trans (hx3.mono (by omega))
 have hz4:w3.1.size≤w4.1.size:=fr3.size
 have Q3:Bx w4 w.1.size #[.int .i64 r.num,.int .i64 r.of,.bool r.up,.int .i64 r.sf.pr,.int .i64 r.sf.kn,.slice a0 r.sf.n r.sf.n,.int .i64 r.dk.pr,.int .i64 r.dk.kn,.slice a1 r.dk.n r.dk.n,.slice a2 r.hn r.hn,.slice A.wa r.wn A.wc,.bool r.ld,.bool r.tr,.int .i64 r.bal,.slice A.ya r.yn A.yc,.slice A.ba r.bn A.bc,.slice A.aa r.an A.ac,.int .i64 r.hd]:=(((Q2).to (hset9 (Q2).cell (.slice a2 r.hn r.hn)))).below hx3 (by omega)
 have Z3:Bx w4 (w.1.size+1) #[.int .i64 0,.int .i64 0,.bool false,.int .i64 0,.int .i64 0,.slice none 0 0,.int .i64 0,.int .i64 0,.slice none 0 0,.slice none 0 0,.slice none 0 0,.bool false,.bool false,.int .i64 0,.slice none 0 0,.slice none 0 0,.slice none 0 0,.int .i64 0]:=Z2.frP fr3 (by omega)
 have O0_3:=hid (O0_2.out.frP fr3 (fun h0=>⟨by have:=L0.out h0;omega,by have:=L0.out h0;omega⟩))
 have O1_3:=hid (O1_2.out.frP fr3 (fun h0=>⟨by have:=L1.out h0;omega,by have:=L1.out h0;omega⟩))
 have O2_3:=hid (O2_2.out.fr fr3 (fun k hk e=>by have:=L2.out k hk;omega))
 clear hb3 hx3 fr3 Q2 Z2 hBV2 hB2 O0_2 O1_2 O2_2
 have O3_3:=hid o3
 have L3:=hid l3
 clear o3 l3
 have hBV3:Below w.1.size w (w4.setCell ⟨w.1.size,10,none⟩ (.slice a3 r.wn r.wn)):=(hB3.setCell (p:=⟨w.1.size,10,none⟩) (lrf _) (.slice a3 r.wn r.wn))
 obtain ⟨p0,p1,p2,p3,p4,p5,p6,p7,p8,p9,ze,zc,za,zd,zi,zj,zg,zh⟩:=Ze Q3.cell
 have qf:=Q3.free
 go_wp2_with fail
 refine (Ki r.yn r.ys A.ya A.yc _ lo hi (by simp only [World.size_setCell];omega) (by have:=HM.out.yn;omega) (HI.out.below (B:=w.1.size) hBV3 hhi).ys).mono ?_
 clear p0 p1 p2 p3 p4 p5 p6 p7 p8 p9 ze zc za zd zi zj zg zh qf
 rintro e w5 ⟨a4,rfl,o4,l4,hb4,_⟩
 simp only [World.size_setCell] at o4 l4
 have hx4:Below w4.1.size (w4.setCell ⟨w.1.size,10,none⟩ (.slice a3 r.wn r.wn)) w5:=hb4.mono (by simp only [World.size_setCell];exact lrf _)
 have fr4:FrP (fun q=>q=w.1.size) w4 w5:=((FrP.refl (fun q=>q=w.1.size) w4).setCell (p:=⟨w.1.size,10,none⟩) rfl (.slice a3 r.wn r.wn)).trans (FrP.of_below (hx4.mono (by simp only [World.size_setCell];exact lrf _)))
 have hB4:Below w.1.size w w5:=hBV3.trans (hx4.mono (by omega))
 have hz5:w4.1.size≤w5.1.size:=fr4.size
 have Q4:Bx w5 w.1.size #[.int .i64 r.num,.int .i64 r.of,.bool r.up,.int .i64 r.sf.pr,.int .i64 r.sf.kn,.slice a0 r.sf.n r.sf.n,.int .i64 r.dk.pr,.int .i64 r.dk.kn,.slice a1 r.dk.n r.dk.n,.slice a2 r.hn r.hn,.slice a3 r.wn r.wn,.bool r.ld,.bool r.tr,.int .i64 r.bal,.slice A.ya r.yn A.yc,.slice A.ba r.bn A.bc,.slice A.aa r.an A.ac,.int .i64 r.hd]:=(((Q3).to (Um (Q3).cell (.slice a3 r.wn r.wn)))).below hx4 (by omega)
 have Z4:Bx w5 (w.1.size+1) #[.int .i64 0,.int .i64 0,.bool false,.int .i64 0,.int .i64 0,.slice none 0 0,.int .i64 0,.int .i64 0,.slice none 0 0,.slice none 0 0,.slice none 0 0,.bool false,.bool false,.int .i64 0,.slice none 0 0,.slice none 0 0,.slice none 0 0,.int .i64 0]:=Z3.frP fr4 (by omega)
 have O0_4:=hid (O0_3.out.frP fr4 (fun h0=>⟨by have:=L0.out h0;omega,by have:=L0.out h0;omega⟩))
 have O1_4:=hid (O1_3.out.frP fr4 (fun h0=>⟨by have:=L1.out h0;omega,by have:=L1.out h0;omega⟩))
 have O2_4:=hid (O2_3.out.fr fr4 (fun k hk e=>by have:=L2.out k hk;omega))
 have O3_4:=hid (O3_3.out.frP fr4 (fun h0=>⟨by omega,by have:=L3.out h0;omega⟩))
 clear hb4 hx4 fr4 Q3 Z3 hBV3 hB3 O0_3 O1_3 O2_3 O3_3
 have O4_4:=hid o4
 have L4:=hid l4
 clear o4 l4
 have hBV4:Below w.1.size w (w5.setCell ⟨w.1.size,14,none⟩ (.slice a4 r.yn r.yn)):=(hB4.setCell (p:=⟨w.1.size,14,none⟩) (lrf _) (.slice a4 r.yn r.yn))
 obtain ⟨p0,p1,p2,p3,p4,p5,p6,p7,p8,p9,ze,zc,za,zd,zi,zj,zg,zh⟩:=Ze Q4.cell
 have qf:=Q4.free
 go_wp2_with fail
 refine (XH r.bn r.bs A.ba A.bc _ lo hi (by simp only [World.size_setCell];omega) (by have:=HM.out.bn;omega) (HI.out.below (B:=w.1.size) hBV4 hhi).bs).mono ?_
 clear p0 p1 p2 p3 p4 p5 p6 p7 p8 p9 ze zc za zd zi zj zg zh qf
 rintro e w6 ⟨a5,rfl,o5,l5,hb5,_⟩
 simp only [World.size_setCell] at o5 l5
 have hx5:Below w5.1.size (w5.setCell ⟨w.1.size,14,none⟩ (.slice a4 r.yn r.yn)) w6:=hb5.mono (by simp only [World.size_setCell];exact lrf _)
 have fr5:FrP (fun q=>q=w.1.size) w5 w6:=((FrP.refl (fun q=>q=w.1.size) w5).setCell (p:=⟨w.1.size,14,none⟩) rfl (.slice a4 r.yn r.yn)).trans (FrP.of_below (hx5.mono (by simp only [World.size_setCell];exact lrf _)))
 have hB5:Below w.1.size w w6:=hBV4.trans (hx5.mono (by omega))
 have hz6:w5.1.size≤w6.1.size:=fr5.size
 have Q5:Bx w6 w.1.size #[.int .i64 r.num,.int .i64 r.of,.bool r.up,.int .i64 r.sf.pr,.int .i64 r.sf.kn,.slice a0 r.sf.n r.sf.n,.int .i64 r.dk.pr,.int .i64 r.dk.kn,.slice a1 r.dk.n r.dk.n,.slice a2 r.hn r.hn,.slice a3 r.wn r.wn,.bool r.ld,.bool r.tr,.int .i64 r.bal,.slice a4 r.yn r.yn,.slice A.ba r.bn A.bc,.slice A.aa r.an A.ac,.int .i64 r.hd]:=(((Q4).to (YU (Q4).cell (.slice a4 r.yn r.yn)))).below hx5 (by omega)
 have Z5:Bx w6 (w.1.size+1) #[.int .i64 0,.int .i64 0,.bool false,.int .i64 0,.int .i64 0,.slice none 0 0,.int .i64 0,.int .i64 0,.slice none 0 0,.slice none 0 0,.slice none 0 0,.bool false,.bool false,.int .i64 0,.slice none 0 0,.slice none 0 0,.slice none 0 0,.int .i64 0]:=Z4.frP fr5 (by omega)
 have O0_5:=hid (O0_4.out.frP fr5 (fun h0=>⟨by have:=L0.out h0;omega,by have:=L0.out h0;omega⟩))
 have O1_5:=hid (O1_4.out.frP fr5 (fun h0=>⟨by have:=L1.out h0;omega,by have:=L1.out h0;omega⟩))
 have O2_5:=hid (O2_4.out.fr fr5 (fun k hk e=>by have:=L2.out k hk;omega))
 have O3_5:=hid (O3_4.out.frP fr5 (fun h0=>⟨by omega,by have:=L3.out h0;omega⟩))
 have O4_5:=hid (O4_4.out.frP fr5 (fun h0=>⟨by omega,by have:=L4.out h0;omega⟩))
 clear hb5 hx5 fr5 Q4 Z4 hBV4 hB4 O0_4 O1_4 O2_4 O3_4 O4_4
 have O5_5:=hid o5
 have L5:=hid l5
 clear o5 l5
 have hBV5:Below w.1.size w (w6.setCell ⟨w.1.size,15,none⟩ (.slice a5 r.bn r.bn)):=(hB5.setCell (p:=⟨w.1.size,15,none⟩) (lrf _) (.slice a5 r.bn r.bn))
 obtain ⟨p0,p1,p2,p3,p4,p5,p6,p7,p8,p9,ze,zc,za,zd,zi,zj,zg,zh⟩:=Ze Q5.cell
 have qf:=Q5.free
 go_wp2_with fail
 refine (copyAks_row r.an _ A.aa A.ac _ lo hi (by simp only [World.size_setCell];omega) (by have:=HM.out.an;omega) (SO.out.below hBV5 hhi)).mono ?_
 clear p0 p1 p2 p3 p4 p5 p6 p7 p8 p9 ze zc za zd zi zj zg zh qf
 rintro e w7 ⟨a6,rfl,_,hr6,hb6⟩
 simp only [World.size_setCell] at hr6
 have hx6:Below w6.1.size (w6.setCell ⟨w.1.size,15,none⟩ (.slice a5 r.bn r.bn)) w7:=hb6.mono (by simp only [World.size_setCell];exact lrf _)
 have fr6:FrP (fun q=>q=w.1.size) w6 w7:=((FrP.refl (fun q=>q=w.1.size) w6).setCell (p:=⟨w.1.size,15,none⟩) rfl (.slice a5 r.bn r.bn)).trans (FrP.of_below (hx6.mono (by simp only [World.size_setCell];exact lrf _)))
 have hB6:Below w.1.size w w7:=hBV5.trans (hx6.mono (by omega))
 have hz7:w6.1.size≤w7.1.size:=fr6.size
 have Q6:Bx w7 w.1.size #[.int .i64 r.num,.int .i64 r.of,.bool r.up,.int .i64 r.sf.pr,.int .i64 r.sf.kn,.slice a0 r.sf.n r.sf.n,.int .i64 r.dk.pr,.int .i64 r.dk.kn,.slice a1 r.dk.n r.dk.n,.slice a2 r.hn r.hn,.slice a3 r.wn r.wn,.bool r.ld,.bool r.tr,.int .i64 r.bal,.slice a4 r.yn r.yn,.slice a5 r.bn r.bn,.slice A.aa r.an A.ac,.int .i64 r.hd]:=(((Q5).to (XI (Q5).cell (.slice a5 r.bn r.bn)))).below hx6 (by omega)
 have Z6:Bx w7 (w.1.size+1) #[.int .i64 0,.int .i64 0,.bool false,.int .i64 0,.int .i64 0,.slice none 0 0,.int .i64 0,.int .i64 0,.slice none 0 0,.slice none 0 0,.slice none 0 0,.bool false,.bool false,.int .i64 0,.slice none 0 0,.slice none 0 0,.slice none 0 0,.int .i64 0]:=Z5.frP fr6 (by omega)
 have O0_6:=hid (O0_5.out.frP fr6 (fun h0=>⟨by have:=L0.out h0;omega,by have:=L0.out h0;omega⟩))
 have O1_6:=hid (O1_5.out.frP fr6 (fun h0=>⟨by have:=L1.out h0;omega,by have:=L1.out h0;omega⟩))
 have O2_6:=hid (O2_5.out.fr fr6 (fun k hk e=>by have:=L2.out k hk;omega))
 have O3_6:=hid (O3_5.out.frP fr6 (fun h0=>⟨by omega,by have:=L3.out h0;omega⟩))
 have O4_6:=hid (O4_5.out.frP fr6 (fun h0=>⟨by omega,by have:=L4.out h0;omega⟩))
 have O5_6:=hid (O5_5.out.frP fr6 (fun h0=>⟨by have:=L5.out h0;omega,by have:=L5.out h0;omega⟩))
 clear hb6 hx6 fr6 Q5 Z5 hBV5 hB5 O0_5 O1_5 O2_5 O3_5 O4_5 O5_5
 have HR6:=hid hr6
 clear hr6
 have hBV6:Below w.1.size w (w7.setCell ⟨w.1.size,16,none⟩ (.slice a6 r.an r.an)):=(hB6.setCell (p:=⟨w.1.size,16,none⟩) (lrf _) (.slice a6 r.an r.an))
 obtain ⟨p0,p1,p2,p3,p4,p5,p6,p7,p8,p9,ze,zc,za,zd,zi,zj,zg,zh⟩:=Ze Q6.cell
 have qf:=Q6.free
 have hx7:FrP (fun q=>q=w.1.size∨q=w6.1.size) w7 (w7.setCell ⟨w.1.size,16,none⟩ (.slice a6 r.an r.an)):=(FrP.refl _ _).setCell (p:=⟨w.1.size,16,none⟩) (Or.inl rfl) (.slice a6 r.an r.an)
 have Q7:Bx (w7.setCell ⟨w.1.size,16,none⟩ (.slice a6 r.an r.an)) w.1.size #[.int .i64 r.num,.int .i64 r.of,.bool r.up,.int .i64 r.sf.pr,.int .i64 r.sf.kn,.slice a0 r.sf.n r.sf.n,.int .i64 r.dk.pr,.int .i64 r.dk.kn,.slice a1 r.dk.n r.dk.n,.slice a2 r.hn r.hn,.slice a3 r.wn r.wn,.bool r.ld,.bool r.tr,.int .i64 r.bal,.slice a4 r.yn r.yn,.slice a5 r.bn r.bn,.slice a6 r.an r.an,.int .i64 r.hd]:=Q6.to (JM Q6.cell (.slice a6 r.an r.an))
 have HA6:Hid (0<r.an→a6=some ⟨w6.1.size,0,none⟩):=fun h0=>(HR6.out h0).1
 have cp0:CpAk (w7.setCell ⟨w.1.size,16,none⟩ (.slice a6 r.an r.an)) w6.1.size r.an 0 r.as_ Ao Ao Co (fun _=>0):=
  ⟨fun h0=>⟨_,(HR6.out h0).2.fr (P:=fun q=>q=w.1.size) ((FrP.refl (fun q=>q=w.1.size) w7).setCell (p:=⟨w.1.size,16,none⟩) rfl _) (by omega),fun i _=>akR_at r.as_ Ao Co i⟩,fun _ _ _=>rfl,fun i hi=>absurd hi (nlz _),fun i hi=>absurd hi (nlz _),fun i j hi=>absurd hi (nlz _)⟩
 have HX7:=hid hx7
 have HQ7:=hid Q7
 have HCP:=hid cp0
 have HZ6:=hid Z6
 clear hx7 Q7 cp0 Z6 Q6
 go_wp2
 clear p0 p1 p2 p3 p4 p5 p6 p7 p8 p9 ze zc za zd zi zj zg zh qf
 go_loopw [36] (fun i wr=>∃ (k:Nat) (A':Nat→Option Addr) (C' hb:Nat→Nat),k≤r.an∧i=.int .i64 k∧Below w.1.size w wr∧FrP (fun q=>q=w.1.size∨q=w6.1.size) w7 wr∧Bx wr w.1.size #[.int .i64 r.num,.int .i64 r.of,.bool r.up,.int .i64 r.sf.pr,.int .i64 r.sf.kn,.slice a0 r.sf.n r.sf.n,.int .i64 r.dk.pr,.int .i64 r.dk.kn,.slice a1 r.dk.n r.dk.n,.slice a2 r.hn r.hn,.slice a3 r.wn r.wn,.bool r.ld,.bool r.tr,.int .i64 r.bal,.slice a4 r.yn r.yn,.slice a5 r.bn r.bn,.slice a6 r.an r.an,.int .i64 r.hd]∧CpAk wr w6.1.size r.an k r.as_ Ao A' C' hb∧(∀ i,i<k→C' i=(r.as_ i).n)) (fun i _=>r.an-(intOf i).toNat)
 case atStart=>exact ⟨0,_,_,_,zle _,rfl,hBV6,HX7.out,HQ7.out,HCP.out,fun i hi=>absurd hi (nlz _)⟩
 case round=>
  obtain ⟨k,A',C',hb,hk,rfl,b0,fx,bx,cp,fl⟩:=hrel
  have FL:=hid fl
  clear fl
  clear HX7 HQ7 HCP
  by_cases hkn:k<r.an
  ·obtain ⟨c,rr,hat⟩:=cp.row (by omega)
   have hA:=HA6.out (by omega)
   subst hA
   obtain ⟨t0,t1⟩:=hat k hkn
   have d0:=(rr.cell (k*2) (by omega)).trans (congrArg some t0)
   have d1:=(rr.cell (k*2+1) (by omega)).trans (congrArg some t1)
   have hsrc:=HO.out k hkn
   rw [←cp.src k (lrf _) hkn] at hsrc
   have HSR:=hid hsrc
   have hfk:Hid (((r.as_ k).n:Int)≤1048576):=HM.out.as_ k hkn
   have hnn:Hid ((r.an:Int)≤1048576):=HM.out.an
   have CP:=hid cp
   have RR:=hid rr
   have BX:=hid bx
   have FX:=hid fx
   have hwz:w6.1.size<wr.1.size:=rr.lt
   have hsz:=bx.lt
   have hle:w.1.size+1+1≤w6.1.size:=by omega
   obtain ⟨p0,p1,p2,p3,p4,p5,p6,p7,p8,p9,ze,zc,za,zd,zi,zj,zg,zh⟩:=Ze bx.cell
   clear t0 t1 hsrc cp rr hat bx fx
   go_wp2
   refine Px _ _ _ _ _ _ _ _ _ _ _ _ _ _ _ _ _ _ _ _ _ _ _ _ _ _ _ _ _ _ _ _ _ _ _ _ _ _ _ _ _ _ _ _ _ _ _ _ w.1.size wr.1.size w6.1.size r.an r.an k (A' k) (C' k) (r.as_ k) _ lo hi ?h1 ?h2 (by simp;omega) (by simp) (by simp;omega) (by simp;omega) hfk.out hnn.out (HSR.out.below (b0.alloc b0.size _) hhi) hkn (.slice (A' k) (r.as_ k).n (C' k)) ?hu ?hfz _ ?hQ
   case h1=>exact ((Zb wr _).cell (p:=⟨w.1.size,16,none⟩) hsz).trans zg
   case h2=>exact Zt wr _ _ 1
   case hu=>exact ((Zb wr _).cell (p:=⟨w6.1.size,k*2+1,none⟩) hwz).trans d1
   case hfz=>exact ((Zb wr _).frozen (p:=⟨w6.1.size,k*2+1,none⟩) hwz).trans (RR.out.free _)
   case hQ=>
    rintro t ad' cap' b' Y k1 k2 ⟨k3,hcp⟩ k4
    have HCQ:=hid hcp
    clear hcp
    have hY:Below wr.1.size wr Y:=(Zb wr _).trans (k4.mono (by simp))
    have CPP:=hid (CP.out.put hkn hY (cap':=cap') (by simp at k1;omega) k2 k3)
    have HBB:=hid ((b0.trans (hY.mono (by omega))).setCell (p:=⟨w6.1.size,k*2+1,none⟩) (by show w.1.size≤w6.1.size;omega) (.slice ad' (r.as_ k).n cap'))
    have HFX:=hid ((FX.out.trans (FrP.of_below hY)).setCell (p:=⟨w6.1.size,k*2+1,none⟩) (Or.inr rfl) (.slice ad' (r.as_ k).n cap'))
    have HBX:=hid ((BX.out.below hY hsz).frP ((FrP.refl (fun q=>q=w6.1.size) Y).setCell (p:=⟨w6.1.size,k*2+1,none⟩) rfl (.slice ad' (r.as_ k).n cap')) (by omega))
    have hn9:=hnn.out
    clear p0 p1 p2 p3 p4 p5 p6 p7 p8 p9 ze zc za zd zi zj zg zh d0 d1 k1 k2 k3 k4 hY CP RR BX FX HSR
    go_wp2
    go_roundw
    case rel=>exact ⟨k+1,_,_,_,by omega,by go_num,HBB.out,HFX.out,HBX.out,CPP.out,fun i hi=>by
     by_cases e:i=k
     ·subst e;rw [Zm];exact HCQ.out
     ·rw [Zn _ _ e];exact FL.out i (by omega)⟩
    case measure=>simp [intOf];omega
  ·have hke:k=r.an:=by omega
   have HRG:=hid (Holds.range (cs:=[.int .i64 r.num,.int .i64 r.of,.bool r.up,.int .i64 r.sf.pr,.int .i64 r.sf.kn,.slice a0 r.sf.n r.sf.n,.int .i64 r.dk.pr,.int .i64 r.dk.kn,.slice a1 r.dk.n r.dk.n,.slice a2 r.hn r.hn,.slice a3 r.wn r.wn,.bool r.ld,.bool r.tr,.int .i64 r.bal,.slice a4 r.yn r.yn,.slice a5 r.bn r.bn,.slice a6 r.an r.an,.int .i64 r.hd]) bx.cell)
   have HTH:Hid (wr.there (w.1.size+1) 0 18):=(HZ6.out.frP fx (by omega)).there
   have CPO:=hid cp
   have FX:=hid fx
   subst hke
   have hzz:=fx.size
   have hsz:=bx.lt
   have hzr:=(HZ6.out.frP fx (by omega)).lt
   clear bx cp fx
   go_wp2_with (first|((with_reducible show wpList _ _ _ (⟨some 50,Op.load 38 _,_,_,_,_⟩::_) _ _);refine wpList_load_mid rfl 38 _ rfl w.1.size 0 rfl [.int .i64 r.num,.int .i64 r.of,.bool r.up,.int .i64 r.sf.pr,.int .i64 r.sf.kn,.slice a0 r.sf.n r.sf.n,.int .i64 r.dk.pr,.int .i64 r.dk.kn,.slice a1 r.dk.n r.dk.n,.slice a2 r.hn r.hn,.slice a3 r.wn r.wn,.bool r.ld,.bool r.tr,.int .i64 r.bal,.slice a4 r.yn r.yn,.slice a5 r.bn r.bn,.slice a6 r.an r.an,.int .i64 r.hd] _ HRG.out Tryz.underlying38 rfl Tryz.sz38 ?_)|((with_reducible show wpList _ _ _ (⟨none,Op.store 38 _ _,_,_,_,_⟩::_) _ _);refine XJ rfl 38 _ _ rfl (w.1.size+1) [.int .i64 r.num,.int .i64 r.of,.bool r.up,.int .i64 r.sf.pr,.int .i64 r.sf.kn,.slice a0 r.sf.n r.sf.n,.int .i64 r.dk.pr,.int .i64 r.dk.kn,.slice a1 r.dk.n r.dk.n,.slice a2 r.hn r.hn,.slice a3 r.wn r.wn,.bool r.ld,.bool r.tr,.int .i64 r.bal,.slice a4 r.yn r.yn,.slice a5 r.bn r.bn,.slice a6 r.an r.an,.int .i64 r.hd] rfl rfl HTH.out Tryz.sz38 (by simp [Value.oneCell']) ?_;intro V hr hfv hsv;have HRV:=hid hr;have HFV:=hid hfv;have HSV:=hid hsv;clear hr hfv hsv))
   have fv:FrP (fun q=>q=w.1.size+1) wr V:=FrP.of_fr HFV.out (fun k h1 h2=>by omega)
   have F8:FrP (fun q=>q=w.1.size∨(q=w.1.size+1∨q=w6.1.size)) w7 V:=(FX.out.mono (fun q hq=>by rcases hq with h|h<;>simp [h])).trans (fv.mono (fun q hq=>Or.inr (Or.inl hq)))
   refine bodyPost_ret (v:=.agg #[.int .i64 r.num,.int .i64 r.of,.bool r.up,.int .i64 r.sf.pr,.int .i64 r.sf.kn,.slice a0 r.sf.n r.sf.n,.int .i64 r.dk.pr,.int .i64 r.dk.kn,.slice a1 r.dk.n r.dk.n,.slice a2 r.hn r.hn,.slice a3 r.wn r.wn,.bool r.ld,.bool r.tr,.int .i64 r.bal,.slice a4 r.yn r.yn,.slice a5 r.bn r.bn,.slice a6 r.an r.an,.int .i64 r.hd]) (Zv rfl _ _ (w.1.size+1) [.int .i64 r.num,.int .i64 r.of,.bool r.up,.int .i64 r.sf.pr,.int .i64 r.sf.kn,.slice a0 r.sf.n r.sf.n,.int .i64 r.dk.pr,.int .i64 r.dk.kn,.slice a1 r.dk.n r.dk.n,.slice a2 r.hn r.hn,.slice a3 r.wn r.wn,.bool r.ld,.bool r.tr,.int .i64 r.bal,.slice a4 r.yn r.yn,.slice a5 r.bn r.bn,.slice a6 r.an r.an,.int .i64 r.hd] _ rfl HRV.out Tryz.underlying38 rfl Tryz.sz38) rfl ⟨⟨⟨a0,a1,a2,a3,a4,a5,a6,r.sf.n,r.dk.n,r.hn,r.wn,r.yn,r.bn,r.an⟩,g0,g1,w2.1.size,w3.1.size,w4.1.size,w5.1.size,w6.1.size,A2,C2,h2,A',C',hb⟩,rfl,?_,⟨rfl,rfl,rfl,rfl,rfl,rfl,rfl,N1.out⟩,?_,?_⟩
   ·refine RcAt.ofRows (fun j=>match j with|0=>w.1.size+1+1|1=>w1.1.size|2=>w2.1.size|3=>w3.1.size|4=>w4.1.size|5=>w5.1.size|6=>w6.1.size|_=>wr.1.size) ?_ ?_ ?_ ?_ ?_ ?_ ?_ ?_ ?_ ?_
    ·exact O0_6.out.frP F8 (fun h0=>⟨by have:=L0.out h0;omega,by have:=L0.out h0;omega⟩)
    ·exact O1_6.out.frP F8 (fun h0=>⟨by have:=L1.out h0;omega,by have:=L1.out h0;omega⟩)
    ·exact O2_6.out.fr F8 (fun k hk e=>by have:=L2.out k hk;omega)
    ·exact O3_6.out.frP F8 (fun h0=>⟨by have:=L3.out h0;omega,by have:=L3.out h0;omega⟩)
    ·exact O4_6.out.frP F8 (fun h0=>⟨by have:=L4.out h0;omega,by have:=L4.out h0;omega⟩)
    ·exact O5_6.out.frP F8 (fun h0=>⟨by have:=L5.out h0;omega,by have:=L5.out h0;omega⟩)
    ·exact (CPO.out.done HA6.out).fr fv (fun k hk e=>by have:=CPO.out.rng hk;omega)
    ·intro j hj
     rcases (show j=0∨j=1∨j=2∨j=3∨j=4∨j=5∨j=6 by omega) with rfl|rfl|rfl|rfl|rfl|rfl|rfl
     ·exact hz1
     ·exact hz2
     ·exact hz3
     ·exact hz4
     ·exact hz5
     ·exact hz6
     ·exact ltr hz7 hzz
    ·show wr.1.size≤V.1.size
     rw [HSV.out]
     exact lrf _
    ·intro j k hj hk
     rcases (show j=0∨j=1∨j=2∨j=3∨j=4∨j=5∨j=6 by omega) with rfl|rfl|rfl|rfl|rfl|rfl|rfl
     ·obtain ⟨h0,rfl⟩:=hk;exact L0.out h0
     ·obtain ⟨h0,rfl⟩:=hk;exact L1.out h0
     ·exact L2.out k hk
     ·obtain ⟨h0,rfl⟩:=hk;exact ⟨lrf _,L3.out h0⟩
     ·obtain ⟨h0,rfl⟩:=hk;exact ⟨lrf _,L4.out h0⟩
     ·obtain ⟨h0,rfl⟩:=hk;exact ⟨lrf _,L5.out h0⟩
     ·exact CPO.out.rng hk
   ·rintro k ⟨j,hj,hk⟩
    rcases (show j=0∨j=1∨j=2∨j=3∨j=4∨j=5∨j=6 by omega) with rfl|rfl|rfl|rfl|rfl|rfl|rfl
    ·obtain ⟨h0,rfl⟩:=hk;have h9:=L0.out h0;omega
    ·obtain ⟨h0,rfl⟩:=hk;have h9:=L1.out h0;omega
    ·have:=L2.out k hk;omega
    ·have h9:k=w3.1.size:=hk.2;omega
    ·have h9:k=w4.1.size:=hk.2;omega
    ·have h9:k=w5.1.size:=hk.2;omega
    ·have:=CPO.out.rng hk;omega
   ·exact ⟨b0.trans (fv.below (B:=w.1.size) (fun k hk e=>by omega) (by omega)),FL.out,by assumption⟩
theorem XT (r:Rc) (A:RcA) (w:World) (lo hi:Nat) (hhi:hi≤w.1.size) (hm:ZW r) (hc:RcIn w lo hi r A) :
  Calls Tryz.prog 48 #[rcV r A] w fun e w'=>∃ p:RcP,e=.returned (rcV r p.A)∧RcG w' r p∧JB r p.A∧(∀ i,i<r.an→p.AC i=(r.as_ i).n)∧(r.bn=0→p.A.ba=none)∧(∀ k,rbs p r k→w.1.size≤k)∧Below w.1.size w w':=
 (Iq r A w lo hi hhi hm hc).mono fun _ _ ⟨p,e,h,ht,hge,hb,hc,hn⟩=>⟨p,e,h.tight ht,ht,hc,hn,hge,hb⟩
def YF {α:Type} (f:Nat→α) (k:Nat) (v:α) (j:Nat):α:=if j<k then f j else if j=k then v else f (j-1)
theorem YH {α:Type} {f:Nat→α} {k:Nat} {v:α} {j:Nat} (h:j<k):YF f k v j=f j:=if_pos h
theorem Yf {α:Type} {f:Nat→α} {k:Nat} {v:α} : YF f k v k=v:=by
 unfold YF
 rw [if_neg (Nat.lt_irrefl _),if_pos rfl]
theorem YI {α:Type} {f:Nat→α} {k:Nat} {v:α} {j:Nat} (h:k<j):YF f k v j=f (j-1):=by
 unfold YF
 rw [if_neg (by omega),if_neg (by omega)]
abbrev ak0 (ix:Int):Ak:=⟨ix,0,fun _=>0⟩
def akD (ix:Int) (j:Nat):Value:=if j=0 then .int .i64 ix else .slice none 0 0
theorem PL {c:Nat→Value} {n k:Nat} {x:Nat→Ak} {A:Nat→Option Addr} {C:Nat→Nat} (ix:Int) (h:∀ i,i<n→atAk c i (x i) (A i) (C i)) (hk:k≤n):∀ i,i<n+1→atAk (Jc c k 2 (akD ix)) i (YF x k (ak0 ix) i) (YF A k none i) (YF C k 0 i):=fun i hi=>by
 rcases Nat.lt_trichotomy i k with h1|h1|h1
 ·rw [YH h1,YH h1,YH h1]
  obtain ⟨a0,a1⟩:=h i (by omega)
  exact ⟨(if_pos (by omega)).trans a0,(if_pos (by omega)).trans a1⟩
 ·subst h1
  rw [Yf,Yf,Yf]
  refine ⟨?_,?_⟩
  ·unfold Jc
   rw [if_neg (by omega),if_pos (by omega),Nat.sub_self]
   rfl
  ·unfold Jc
   rw [if_neg (by omega),if_pos (by omega),show i*2+1-i*2=1 by omega]
   rfl
 ·rw [YI h1,YI h1,YI h1]
  obtain ⟨a0,a1⟩:=h (i-1) (by omega)
  refine ⟨?_,?_⟩
  ·unfold Jc
   rw [if_neg (by omega),if_neg (by omega),show i*2-2=(i-1)*2 by omega]
   exact a0
  ·unfold Jc
   rw [if_neg (by omega),if_neg (by omega),show i*2+1-2=(i-1)*2+1 by omega]
   exact a1
theorem AksAt.ins {w w':World} {ad:Option Addr} {g n:Nat} {x:Nat→Ak} {A:Nat→Option Addr} {C hb:Nat→Nat} (h:AksAt w ad g n x A C hb) (hB:Below w.1.size w w') {k:Nat} (hk:k≤n) {g':Nat} (hg:w.1.size≤g') {c:Nat→Value} (hc:∀ i,i<n→atAk c i (x i) (A i) (C i)) (ix:Int)
  (hrow:RowF w' g' ((n+1)*2) (Jc c k 2 (akD ix))):AksAt w' (some ⟨g',0,none⟩) g' (n+1) (YF x k (ak0 ix)) (YF A k none) (YF C k 0) (YF hb k 0):=by
 have h2:=h.grow hB
 have nz:∀ i,i<n+1→(YF x k (ak0 ix) i).n≠0→∃ j,j<n∧(x j).n≠0∧YF hb k 0 i=hb j∧(i<k∧j=i∨k<i∧j=i-1):=fun i hi h0=>by
  rcases Nat.lt_trichotomy i k with h1|h1|h1
  ·rw [YH h1] at h0
   exact ⟨i,by omega,h0,YH h1,Or.inl ⟨h1,rfl⟩⟩
  ·subst h1
   rw [Yf] at h0
   exact absurd rfl h0
  ·rw [YI h1] at h0
   exact ⟨i-1,by omega,h0,YI h1,Or.inr ⟨h1,rfl⟩⟩
 refine ⟨fun _=>rfl,fun _=>⟨_,hrow,PL ix hc hk⟩,fun i hi=>?_,fun i hi h0=>?_,⟨fun i hi h0=>?_,fun i j hi hj h0 h1 e=>?_⟩⟩
 ·rcases Nat.lt_trichotomy i k with h1|h1|h1
  ·rw [YH h1,YH h1,YH h1]
   exact h2.hold i (by omega)
  ·subst h1
   rw [Yf,Yf,Yf]
   exact fun j hj=>absurd hj (nlz _)
  ·rw [YI h1,YI h1,YI h1]
   exact h2.hold (i-1) (by omega)
 ·obtain ⟨j,hj,h1,e,_⟩:=nz i hi h0
  rw [e]
  exact h2.hlt j hj h1
 ·obtain ⟨j,hj,h1,e,_⟩:=nz i hi h0
  rw [e]
  have:=h.hlt j hj h1
  omega
 ·obtain ⟨p,hp,p1,ep,pc⟩:=nz i hi h0
  obtain ⟨q,hq,q1,eq,qc⟩:=nz j hj h1
  rw [ep,eq] at e
  have:=h.ap.2 p q hp hq p1 q1 e
  omega
abbrev akS (x:Nat→Ak) (k n:Nat) (s:Nat→Int):Nat→Ak:=updF x k ⟨(x k).ix,n,s⟩
theorem AksAt.put {w w1:World} {ad:Option Addr} {g n k:Nat} {x:Nat→Ak} {A:Nat→Option Addr} {C hb:Nat→Nat} (h:AksAt w ad g n x A C hb) (hk:k<n) (hB:Below w.1.size w w1) {ad':Option Addr} {m cap' b':Nat} {s:Nat→Int} (hs:IntsOwn w1 b' (b'+1) ad' m s) (hl:b'<w1.1.size) (hb':(b'=hb k∧(x k).n≠0)∨w.1.size≤b') :
  AksAt (w1.setCell ⟨g,k*2+1,none⟩ (.slice ad' m cap')) ad g n (akS x k m s) (updF A k ad') (updF C k cap') (updF hb k b'):=by
 have h2:=h.grow hB
 obtain ⟨c,r,hat⟩:=h2.row (by omega)
 have hgw:=r.lt
 have hg0:g<w.1.size:=by obtain ⟨_,r0,_⟩:=h.row (by omega);exact r0.lt
 have F:FrP (fun q=>q=g) w1 (w1.setCell ⟨g,k*2+1,none⟩ (.slice ad' m cap')):=(FrP.refl (fun q=>q=g) w1).setCell (p:=⟨g,k*2+1,none⟩) rfl _
 have hbg:b'≠g:=by
  rcases hb' with ⟨e,h0⟩|e
  ·subst e;exact h.ap.1 k hk h0
  ·omega
 refine ⟨h.addr,fun _=>⟨_,r.set (o:=k*2+1) (by omega) _,fun i hi=>?_⟩,fun i hi=>?_,fun i hi h0=>?_,⟨fun i hi h0=>?_,fun i j hi hj h0 h1 e=>?_⟩⟩
 ·by_cases e:i=k
  ·subst e
   rw [Zm,Zm]
   show atAk _ i (updF x i _ i) _ _
   rw [Zm]
   obtain ⟨a0,_⟩:=hat i hi
   exact ⟨(if_neg (by omega)).trans a0,if_pos rfl⟩
  ·rw [Zn _ _ e,Zn _ _ e]
   show atAk _ i (updF x k _ i) _ _
   rw [Zn _ _ e]
   obtain ⟨a0,a1⟩:=hat i hi
   exact ⟨(if_neg (by omega)).trans a0,(if_neg (by omega)).trans a1⟩
 ·by_cases e:i=k
  ·subst e
   rw [Zm,Zm]
   show IntsOwn _ _ _ _ (updF x i _ i).n (updF x i _ i).s
   rw [Zm]
   exact hs.frP F (fun _=>⟨hbg,hl⟩)
  ·rw [Zn _ _ e,Zn _ _ e]
   show IntsOwn _ _ _ _ (updF x k _ i).n (updF x k _ i).s
   rw [Zn _ _ e]
   exact (h2.hold i hi).frP F (fun h0=>⟨h.ap.1 i hi h0,h2.hlt i hi h0⟩)
 ·rw [World.size_setCell]
  by_cases e:i=k
  ·subst e;rw [Zm];exact hl
  ·rw [Zn _ _ e]
   have h0':(updF x k ⟨(x k).ix,m,s⟩ i).n≠0:=h0
   rw [Zn _ _ e] at h0'
   exact h2.hlt i hi h0'
 ·by_cases e:i=k
  ·subst e;rw [Zm];exact hbg
  ·rw [Zn _ _ e]
   have h0':(updF x k ⟨(x k).ix,m,s⟩ i).n≠0:=h0
   rw [Zn _ _ e] at h0'
   exact h.ap.1 i hi h0'
 ·have key:∀ p,p<n→p≠k→(x p).n≠0→hb p≠b':=fun p hp hpk h0 e2=>by
   rcases hb' with ⟨e3,h3⟩|e3
   ·exact hpk (h.ap.2 p k hp hk h0 h3 (e2.trans e3))
   ·have:=h.hlt p hp h0;omega
  have fx:∀ p,p≠k→(updF x k ⟨(x k).ix,m,s⟩ p).n≠0→(x p).n≠0:=fun p hp h0=>by rw [Zn _ _ hp] at h0;exact h0
  by_cases ei:i=k
  ·by_cases ej:j=k
   ·rw [ei,ej]
   ·subst ei
    rw [Zm,Zn _ _ ej] at e
    exact absurd e.symm (key j hj ej (fx j ej h1))
  ·by_cases ej:j=k
   ·subst ej
    rw [Zm,Zn _ _ ei] at e
    exact absurd e (key i hi ei (fx i ei h0))
   ·rw [Zn _ _ ei,Zn _ _ ej] at e
    exact h.ap.2 i j hi hj (fx i ei h0) (fx j ej h1) e
set_option maxRecDepth 100000 in
theorem N3 (a:Ak) (ad:Option Addr) (cap:Nat) (ix:Int) (hr:0≤a.ix∧a.ix≤1000000) (hi:0≤ix∧ix≤1000000) (w:World):Calls Tryz.prog 168 #[akV a ad cap,.int .i64 ix] w fun e w'=>e=.returned (.int .i64 (a.ix-ix))∧Below w.1.size w w':=by
 obtain ⟨h1,h2⟩:=hr
 obtain ⟨h3,h4⟩:=hi
 go_enter Tryz.func168,Tryz.ntmps168
 go_wp2
 go_ret
 exact ⟨rfl,Zb _ _⟩
set_option maxRecDepth 100000 in
theorem JU (n:Nat) (x:Nat→Ak) (ad:Option Addr) (cap g:Nat) (A:Nat→Option Addr) (C hb':Nat→Nat) (ix:Int) (w:World) (hl:(n:Int)≤1048576) (hix:0≤ix∧ix≤1000000) (hr:∀ i,i<n→0≤(x i).ix∧(x i).ix≤1000000) (hasc:∀ i j,i<j→j<n→(x i).ix<(x j).ix) (hc:AksAt w ad g n x A C hb') :
  Calls Tryz.prog 167 #[.slice ad n cap,.int .i64 ix,.func (.func 168) #[] #[]] w fun e w'=>e=.returned (.tuple #[.int .i64 (rk (fun i=>(x i).ix) ix n:Nat),.bool (XN n (fun i=>(x i).ix) ix)])∧Below w.1.size w w':=by
 have HR:=hid hr
 have HAS:=hid hasc
 have HIX:=hid hix
 have HC:=hid (show ∀ i,i<n→ad=some ⟨g,0,none⟩∧g<w.1.size∧w.cell? ⟨g,i*2,none⟩=some (.int .i64 (x i).ix)∧w.cell? ⟨g,i*2+1,none⟩=some (.slice (A i) (x i).n (C i)) from fun i hi=>by
  obtain ⟨c,r,hat⟩:=hc.row (by omega)
  obtain ⟨a0,a1⟩:=hat i hi
  exact ⟨hc.addr (by omega),r.lt,by rw [r.cell _ (by omega),a0],by rw [r.cell _ (by omega),a1]⟩)
 clear hr hasc hc hix
 go_enter Tryz.func167,Tryz.ntmps167
 go_wp2
 go_loopw [9,10] (fun i j wr=>∃ p q:Nat,p≤q∧q≤n∧i=.int .i64 p∧j=.int .i64 q∧Below w.1.size w wr∧(∀ j,j<p→(x j).ix<ix)∧(∀ j,q≤j→j<n→ix≤(x j).ix)) (fun i j _=>(intOf j-intOf i).toNat)
 case atStart=>exact ⟨0,n,zle _,lrf _,rfl,rfl,br _ _,fun j hj=>absurd hj (nlz _),fun j h1 h2=>absurd h2 (by omega)⟩
 case round=>
  obtain ⟨p,q,hpq,hqn,rfl,rfl,hb,hlo',hhi'⟩:=hrel
  have H1:=hid hlo'
  have H2:=hid hhi'
  clear hlo' hhi'
  by_cases hp:p<q
  ·obtain ⟨e,hgl,e0,e1⟩:=HC.out ((p+q) / 2) (by omega)
   have d0:=(hb.cell (p:=⟨g,(p+q) / 2*2,none⟩) hgl).trans e0
   have d1:=(hb.cell (p:=⟨g,(p+q) / 2*2+1,none⟩) hgl).trans e1
   rw [e]
   clear e e0 e1
   have hCP:=hid (N3 (x ((p+q) / 2)) (A ((p+q) / 2)) (C ((p+q) / 2)) ix (HR.out _ (by omega)) HIX.out)
   by_cases hlt:(x ((p+q) / 2)).ix<ix
   ·have HN:=hid (show ∀ j,j<(p+q) / 2+1→(x j).ix<ix from fun j hj=>by
     rcases Nat.lt_or_ge j ((p+q) / 2) with h3|h3
     ·have:=HAS.out j _ h3 (by omega);omega
     ·obtain rfl:j=(p+q) / 2:=by omega
      exact hlt)
    have hneg:(x ((p+q) / 2)).ix-ix<0:=by omega
    go_wp2_with (go_at_call 168;go_must (refine (hCP.out _).mono ?_;rintro e w1 ⟨rfl,hb1⟩))
    go_roundw
    case rel=>exact ⟨(p+q) / 2+1,q,by omega,hqn,by go_num,by first|rfl|trivial,hb.trans (hb1.mono hb.size),HN.out,H2.out⟩
    case measure=>simp [intOf];omega
   ·have HN:=hid (show ∀ j,(p+q) / 2≤j→j<n→ix≤(x j).ix from fun j h1 h2=>by
     rcases Nat.lt_or_ge ((p+q) / 2) j with h3|h3
     ·have:=HAS.out _ j h3 h2;omega
     ·obtain rfl:j=(p+q) / 2:=by omega
      omega)
    have hneg:¬((x ((p+q) / 2)).ix-ix<0):=by omega
    go_wp2_with (go_at_call 168;go_must (refine (hCP.out _).mono ?_;rintro e w1 ⟨rfl,hb1⟩))
    go_roundw
    case rel=>exact ⟨p,(p+q) / 2,by omega,by omega,by first|rfl|trivial,by go_num,hb.trans (hb1.mono hb.size),H1.out,HN.out⟩
    case measure=>simp [intOf];omega
  ·have hpe:p=q:=by omega
   subst hpe
   have HK:=hid (Ks (s:=fun i=>(x i).ix) (x:=ix) hqn H1.out (fun h=>H2.out p (lrf _) h))
   by_cases hpn:p<n
   ·obtain ⟨e,hgl,e0,e1⟩:=HC.out p hpn
    have d0:=(hb.cell (p:=⟨g,p*2,none⟩) hgl).trans e0
    have d1:=(hb.cell (p:=⟨g,p*2+1,none⟩) hgl).trans e1
    rw [e]
    clear e e0 e1
    have hCP:=hid (N3 (x p) (A p) (C p) ix (HR.out _ hpn) HIX.out)
    by_cases he:(x p).ix=ix
    ·have HE:=hid (show XN n (fun i=>(x i).ix) ix=true by unfold XN;rw [←HK.out];simp [hpn,he])
     have hz:(x p).ix-ix=0:=by omega
     rw [hz] at hCP
     clear he hz
     go_wp2_with (go_at_call 168;go_must (refine (hCP.out _).mono ?_;rintro e w1 ⟨rfl,hb1⟩))
     refine bodyPost_ret (v:=.tuple #[.int .i64 p,.bool true]) (by simp [results,Tryz.results167,go_sem]) rfl ⟨by rw [HE.out,←HK.out],hb.trans (hb1.mono hb.size)⟩
    ·have HE:=hid (show XN n (fun i=>(x i).ix) ix=false by unfold XN;rw [←HK.out];simp [he])
     have hz:((x p).ix-ix==0)=false:=by simp;omega
     generalize (x p).ix-ix=dd at *
     clear he
     go_wp2_with (go_at_call 168;go_must (refine (hCP.out _).mono ?_;rintro e w1 ⟨rfl,hb1⟩))
     refine bodyPost_ret (v:=.tuple #[.int .i64 p,.bool false]) (by simp [results,Tryz.results167,go_sem]) rfl ⟨by rw [HE.out,←HK.out],hb.trans (hb1.mono hb.size)⟩
   ·have HE:=hid (show XN n (fun i=>(x i).ix) ix=false by unfold XN;rw [←HK.out];simp [hpn])
    go_wp2
    refine bodyPost_ret (v:=.tuple #[.int .i64 p,.bool false]) (by simp [results,Tryz.results167,go_sem]) rfl ⟨by rw [HE.out,←HK.out],hb⟩
abbrev I1 (p:RcP) (aa:Option Addr) (ac g6:Nat) (AA:Nat→Option Addr) (AC Ab:Nat→Nat):RcP:={ p with A:={ p.A with aa:=aa,ac:=ac },g6:=g6,AA:=AA,AC:=AC,Ab:=Ab }
abbrev IZ (r:Rc) (an:Nat) (as_:Nat→Ak):Rc:={ r with an:=an,as_:=as_ }
theorem Ug {p:RcP} {r:Rc} {aa:Option Addr} {ac g6 an:Nat} {as_:Nat→Ak} {AA:Nat→Option Addr} {AC Ab:Nat→Nat} {j k:Nat} (hj:j<6):rb (I1 p aa ac g6 AA AC Ab) (IZ r an as_) j k↔rb p r j k:=by
 rcases (show j=0∨j=1∨j=2∨j=3∨j=4∨j=5 by omega) with rfl|rfl|rfl|rfl|rfl|rfl<;>exact Iff.rfl
theorem RcG.acks {w w':World} {r:Rc} {p:RcP} (h:RcG w r p) {P:Nat→Prop} (hf:FrP P w w') (hP:∀ j k,j<6→rb p r j k→¬P k) {aa:Option Addr} (ac:Nat) {g6 an:Nat} {as_:Nat→Ak} {AA:Nat→Option Addr} {AC Ab:Nat→Nat} (o:AksAt w' aa g6 an as_ AA AC Ab) (hq:∀ k,blkH g6 an (fun i=>(as_ i).n) Ab k→rb p r 6 k∨w.1.size≤k) :
  RcG w' (IZ r an as_) (I1 p aa ac g6 AA AC Ab)∧(∀ k,rbs (I1 p aa ac g6 AA AC Ab) (IZ r an as_) k→rbs p r k∨w.1.size≤k):=by
 have r6:∀ k,rb (I1 p aa ac g6 AA AC Ab) (IZ r an as_) 6 k→rb p r 6 k∨w.1.size≤k:=fun k hk=>hq k hk
 have hs:∀ k,rbs (I1 p aa ac g6 AA AC Ab) (IZ r an as_) k→rbs p r k∨w.1.size≤k:=fun k ⟨j,hj,hk⟩=>by
  by_cases e:j=6
  ·subst e
   rcases r6 k hk with h1|h1
   ·exact Or.inl ⟨6,hj,h1⟩
   ·exact Or.inr h1
  ·exact Or.inl ⟨j,hj,(Ug (by omega)).1 hk⟩
 refine ⟨⟨⟨?_,?_,?_,?_,?_,?_,o,fun k ⟨j,hj,hk⟩=>?_,fun i j k hi hj h1 h2=>?_⟩,⟨h.rm.dl,h.rm.d0,fun h0=>Ye (h.rm.dr h0) hf (hP 1 _ (by omega) ⟨h0,rfl⟩),h.rm.hl,h.rm.h0,fun h0=>Ye (h.rm.hr h0) hf (hP 2 _ (by omega) (Or.inl ⟨Nat.pos_of_ne_zero h0,rfl⟩))⟩⟩,hs⟩
 ·exact h.at_.o0.frP hf (fun h0=>⟨hP 0 _ (by omega) ⟨h0,rfl⟩,Zr h.at_ (j:=0) (by omega) ⟨h0,rfl⟩⟩)
 ·exact h.at_.o1.frP hf (fun h0=>⟨hP 1 _ (by omega) ⟨h0,rfl⟩,Zr h.at_ (j:=1) (by omega) ⟨h0,rfl⟩⟩)
 ·exact h.at_.o2.fr hf (fun k hk=>hP 2 k (by omega) hk)
 ·exact h.at_.o3.frP hf (fun h0=>⟨hP 3 _ (by omega) ⟨h0,rfl⟩,Zr h.at_ (j:=3) (by omega) ⟨h0,rfl⟩⟩)
 ·exact h.at_.o4.frP hf (fun h0=>⟨hP 4 _ (by omega) ⟨h0,rfl⟩,Zr h.at_ (j:=4) (by omega) ⟨h0,rfl⟩⟩)
 ·exact h.at_.o5.frP hf (fun h0=>⟨hP 5 _ (by omega) ⟨h0,rfl⟩,Zr h.at_ (j:=5) (by omega) ⟨h0,rfl⟩⟩)
 ·by_cases e:j=6
  ·subst e
   exact o.blt hk
  ·exact ltl (Zr h.at_ hj ((Ug (by omega)).1 hk)) hf.size
 ·have key:∀ j,j<6→rb (I1 p aa ac g6 AA AC Ab) (IZ r an as_) j k→rb (I1 p aa ac g6 AA AC Ab) (IZ r an as_) 6 k→False:=fun j hj a b=>by
   have a':=(Ug hj).1 a
   rcases r6 k b with h3|h3
   ·have:=h.at_.ap j 6 k (by omega) (by omega) a' h3;omega
   ·have:=Zr h.at_ (by omega) a';omega
  by_cases ei:i=6
  ·by_cases ej:j=6
   ·omega
   ·subst ei;exact (key j (by omega) h2 h1).elim
  ·by_cases ej:j=6
   ·subst ej;exact (key i (by omega) h1 h2).elim
   ·exact h.at_.ap i j k hi hj ((Ug (by omega)).1 h1) ((Ug (by omega)).1 h2)
def Ei (B g m cap k:Nat) (x:Int) (y:Ak) (a:Option Addr) (hbk:Nat) (W:World) (i:Nat) (v:Value) (X:World):Prop:=
 match i with
 | 0=>v=.pointer (some ⟨B,0,none⟩)
 | 1=>v=.pointer (some ⟨B,0,none⟩)
 | 2=>v=.pointer (some ⟨B,16,none⟩)
 | 3=>v=.slice (some ⟨g,0,none⟩) m cap
 | 4=>v=.int .i64 (k:Nat)
 | 5=>v=.pointer (some ⟨B,0,none⟩)
 | 6=>v=.pointer (some ⟨B,0,none⟩)
 | 7=>v=.pointer (some ⟨B,16,none⟩)
 | 8=>v=.slice (some ⟨g,0,none⟩) m cap
 | 9=>v=.int .i64 (k:Nat)
 | 10=>v=.pointer (some ⟨g,k*2,none⟩)
 | 11=>v=.pointer (some ⟨g,k*2+1,none⟩)
 | 12=>v=.slice a y.n y.n
 | 13=>v=.int .i64 x
 | 14=>∃ ad' cap' b',v=.slice ad' (Zy y.n y.s x) cap'∧IntsOwn X b' (b'+1) ad' (Zy y.n y.s x) (ZJ y.n y.s x)∧b'<X.1.size∧((b'=hbk∧0<y.n)∨W.1.size≤b')
 | 15=>v=.pointer (some ⟨g,k*2,none⟩)
 | 16=>v=.pointer (some ⟨g,k*2+1,none⟩)
 | _=>True
theorem apGg0 {P:Prop} (h:P:=by
  have f1:=(hb.cell (p:=⟨g,k*2+1,none⟩) hgl).trans hk1
  have f2:=(hb.frozen (p:=⟨g,k*2+1,none⟩) hgl).trans hfz
  have h:=hK _ (X.setCell ⟨g,k*2+1,none⟩ (.slice ad' (Zy y.n y.s x) cap')) ⟨t,.tuple #[],rfl,ad',cap',b',X,rfl,k1,k2,k3,hb⟩
  refine Zi rfl rfl ?_
  clear hK hg
  go_simp
  simpa [eP,eC] using h):P:=h
set_option maxRecDepth 100000 in
theorem Oa (p2 p3 p4 p5 p7 p8 p9 ze zc za zd zi zj zg zh zn zm zo zp zq yb yf ye z9 yd z8 z0 zu zy zt j5 j9 kg kd jw ju yp yq yv yw xx xy xc yu yx xb xd xg xk xe xh js x9 jk jj ji jl xw yz xi xm xa xf xj xl yy xn xp xq xr xu xt jt jr jq kf ke:Value) (w0 w1 w2 w3 w4 w5 w6 w7 w8 w9 w10 w11 w12 w13 w14 w15 w16:Value) (B g m cap k:Nat) (x:Int) (y:Ak) (a:Option Addr) (hbk:Nat) (W:World) (h16:W.cell? ⟨B,16,none⟩=some (.slice (some ⟨g,0,none⟩) m cap)) (hBl:B<W.1.size) (hgl:g<W.1.size) (hk1:W.cell? ⟨g,k*2+1,none⟩=some (.slice a y.n y.n)) (hfz:W.frozen? ⟨g,k*2+1,none⟩=false) (hkm:k<m) (_hm:m≤1000) (hyn:y.n≤999)  (hasc:∀ i j,i<j→j<y.n→y.s i<y.s j) (hhb:0<y.n→hbk<W.1.size) (hin:IntsOwn W hbk (hbk+1) a y.n y.s) (Q:Exit→Act→World→Prop) (hQ:∀ (t:Nat→Value) (_v3:Value) X,(∃ ad' cap' b' Y,X=Y.setCell ⟨g,k*2+1,none⟩ (.slice ad' (Zy y.n y.s x) cap')∧IntsOwn Y b' (b'+1) ad' (Zy y.n y.s x) (ZJ y.n y.s x)∧b'<Y.1.size∧((b'=hbk∧0<y.n)∨W.1.size≤b')∧Below W.1.size W Y)→Q .normal ⟨#[.pointer (some ⟨B,0,none⟩),.int .i64 x,p2,p3,p4,p5,.int .i64 (k:Nat),p7,p8,p9,ze,zc,za,zd,zi,zj,zg,zh,zn,zm,zo,zp,zq,yb,yf,ye,z9,yd,z8,z0,zu,zy,zt,t 0,t 1,t 2,t 3,t 4,t 5,t 6,t 7,t 8,t 9,t 10,t 11,t 12,t 13,t 14,t 15,t 16,j5,j9,kg,kd,jw,ju,yp,yq,yv,yw,xx,xy,xc,yu,yx,xb,xd,xg,xk,xe,xh,js,x9,jk,jj,ji,jl,xw,yz,xi,xm,xa,xf,xj,xl,yy,xn,xp,xq,xr,xu,xt,jt,jr,jq,kf,ke],[]⟩ X) :
  Code.wp Tryz.prog (Code.region 3 #[⟨some 33,.move (.tmp 0),81,GA,#[],none⟩,⟨some 34,.nilCheck (.tmp 33),0,GA,#[⟨0,.data⟩],none⟩,⟨some 35,.fieldAddr 38 (.tmp 34) 12,0,GA,#[⟨1,.data⟩],none⟩,⟨some 36,.load 36 (.tmp 35),36,GA,#[⟨2,.data⟩],none⟩,⟨some 37,.move (.tmp 6),3,GA,#[],none⟩,⟨some 38,.move (.tmp 0),81,GA,#[],none⟩,⟨some 39,.nilCheck (.tmp 38),0,GA,#[⟨5,.data⟩],none⟩,⟨some 40,.fieldAddr 38 (.tmp 39) 12,0,GA,#[⟨6,.data⟩],none⟩,⟨some 41,.load 36 (.tmp 40),36,GA,#[⟨7,.data⟩],none⟩,⟨some 42,.move (.tmp 6),3,GA,#[],none⟩,⟨some 43,.indexAddr 36 (.tmp 41) (.tmp 42),0,GA,#[⟨8,.data⟩,⟨9,.data⟩],none⟩,⟨some 44,.fieldAddr 108 (.tmp 43) 1,0,GA,#[⟨10,.data⟩],none⟩,⟨some 45,.load 27 (.tmp 44),27,GA,#[⟨11,.data⟩],none⟩,⟨some 46,.move (.tmp 1),3,GA,#[],none⟩,⟨some 47,.call ⟨.value (.func 162),#[.tmp 45,.tmp 46],#[27,3]⟩,27,GA,#[⟨12,.data⟩,⟨13,.data⟩],none⟩,⟨some 48,.indexAddr 36 (.tmp 36) (.tmp 37),0,GA,#[⟨3,.data⟩,⟨4,.data⟩,⟨0,.phase⟩,⟨1,.phase⟩,⟨2,.phase⟩,⟨3,.phase⟩,⟨4,.phase⟩,⟨5,.phase⟩,⟨6,.phase⟩,⟨7,.phase⟩,⟨8,.phase⟩,⟨9,.phase⟩,⟨10,.phase⟩,⟨11,.phase⟩,⟨12,.phase⟩,⟨13,.phase⟩,⟨14,.phase⟩],none⟩,⟨some 49,.fieldAddr 108 (.tmp 48) 1,0,GA,#[⟨15,.data⟩,⟨0,.phase⟩,⟨1,.phase⟩,⟨2,.phase⟩,⟨3,.phase⟩,⟨4,.phase⟩,⟨5,.phase⟩,⟨6,.phase⟩,⟨7,.phase⟩,⟨8,.phase⟩,⟨9,.phase⟩,⟨10,.phase⟩,⟨11,.phase⟩,⟨12,.phase⟩,⟨13,.phase⟩,⟨14,.phase⟩],none⟩,⟨none,.store 27 (.tmp 49) (.tmp 47),0,GA,#[⟨16,.data⟩,⟨14,.data⟩,⟨14,.chain⟩,⟨0,.phase⟩,⟨1,.phase⟩,⟨2,.phase⟩,⟨3,.phase⟩,⟨4,.phase⟩,⟨5,.phase⟩,⟨6,.phase⟩,⟨7,.phase⟩,⟨8,.phase⟩,⟨9,.phase⟩,⟨10,.phase⟩,⟨11,.phase⟩,⟨12,.phase⟩,⟨13,.phase⟩,⟨14,.phase⟩],none⟩] true) Q ⟨#[.pointer (some ⟨B,0,none⟩),.int .i64 x,p2,p3,p4,p5,.int .i64 (k:Nat),p7,p8,p9,ze,zc,za,zd,zi,zj,zg,zh,zn,zm,zo,zp,zq,yb,yf,ye,z9,yd,z8,z0,zu,zy,zt,w0,w1,w2,w3,w4,w5,w6,w7,w8,w9,w10,w11,w12,w13,w14,w15,w16,j5,j9,kg,kd,jw,ju,yp,yq,yv,yw,xx,xy,xc,yu,yx,xb,xd,xg,xk,xe,xh,js,x9,jk,jj,ji,jl,xw,yz,xi,xm,xa,xf,xj,xl,yy,xn,xp,xq,xr,xu,xt,jt,jr,jq,kf,ke],[]⟩ W:=by
 refine ZL (by kernel_rfl) 17 (fun t:Nat→Value=>#[.pointer (some ⟨B,0,none⟩),.int .i64 x,p2,p3,p4,p5,.int .i64 (k:Nat),p7,p8,p9,ze,zc,za,zd,zi,zj,zg,zh,zn,zm,zo,zp,zq,yb,yf,ye,z9,yd,z8,z0,zu,zy,zt,t 0,t 1,t 2,t 3,t 4,t 5,t 6,t 7,t 8,t 9,t 10,t 11,t 12,t 13,t 14,t 15,t 16,j5,j9,kg,kd,jw,ju,yp,yq,yv,yw,xx,xy,xc,yu,yx,xb,xd,xg,xk,xe,xh,js,x9,jk,jj,ji,jl,xw,yz,xi,xm,xa,xf,xj,xl,yy,xn,xp,xq,xr,xu,xt,jt,jr,jq,kf,ke]) (fun i=>match i with|0=>w0|1=>w1|2=>w2|3=>w3|4=>w4|5=>w5|6=>w6|7=>w7|8=>w8|9=>w9|10=>w10|11=>w11|12=>w12|13=>w13|14=>w14|15=>w15|_=>w16) (Ei B g m cap k x y a hbk W) (fun a X=>∃ (t:Nat→Value) (v3:Value),a=⟨#[.pointer (some ⟨B,0,none⟩),.int .i64 x,p2,p3,p4,p5,.int .i64 (k:Nat),p7,p8,p9,ze,zc,za,zd,zi,zj,zg,zh,zn,zm,zo,zp,zq,yb,yf,ye,z9,yd,z8,z0,zu,zy,zt,t 0,t 1,t 2,t 3,t 4,t 5,t 6,t 7,t 8,t 9,t 10,t 11,t 12,t 13,t 14,t 15,t 16,j5,j9,kg,kd,jw,ju,yp,yq,yv,yw,xx,xy,xc,yu,yx,xb,xd,xg,xk,xe,xh,js,x9,jk,jj,ji,jl,xw,yz,xi,xm,xa,xf,xj,xl,yy,xn,xp,xq,xr,xu,xt,jt,jr,jq,kf,ke],[]⟩∧(∃ ad' cap' b' Y,X=Y.setCell ⟨g,k*2+1,none⟩ (.slice ad' (Zy y.n y.s x) cap')∧IntsOwn Y b' (b'+1) ad' (Zy y.n y.s x) (ZJ y.n y.s x)∧b'<Y.1.size∧((b'=hbk∧0<y.n)∨W.1.size≤b')∧Below W.1.size W Y)) (by kernel_rfl) (by kernel_rfl) (by kernel_rfl) ?_ rfl ?_ ?_ ?_
 ·intro i v X Y hi h hb
  rcases (show i=0∨i=1∨i=2∨i=3∨i=4∨i=5∨i=6∨i=7∨i=8∨i=9∨i=10∨i=11∨i=12∨i=13∨i=14∨i=15∨i=16 by omega) with rfl|rfl|rfl|rfl|rfl|rfl|rfl|rfl|rfl|rfl|rfl|rfl|rfl|rfl|rfl|rfl|rfl
  ·exact h
  ·exact h
  ·exact h
  ·exact h
  ·exact h
  ·exact h
  ·exact h
  ·exact h
  ·exact h
  ·exact h
  ·exact h
  ·exact h
  ·exact h
  ·exact h
  ·obtain ⟨ad',cap',b',e1,e2,e3,e4⟩:=h
   exact ⟨ad',cap',b',e1,e2.growB hb (fun _=>e3),ltl e3 hb.size,e4⟩
  ·exact h
  ·exact h
 ·intro i hi t X K hb hg hK
  rcases (show i=0∨i=1∨i=2∨i=3∨i=4∨i=5∨i=6∨i=7∨i=8∨i=9∨i=10∨i=11∨i=12∨i=13∨i=14∨i=15∨i=16 by omega) with rfl|rfl|rfl|rfl|rfl|rfl|rfl|rfl|rfl|rfl|rfl|rfl|rfl|rfl|rfl|rfl|rfl
  ·exact sg
  ·have ea:t 0=.pointer (some ⟨B,0,none⟩):=hg 0 (Wt rfl)
   exact sg
  ·have ea:t 1=.pointer (some ⟨B,0,none⟩):=hg 1 (Wt rfl)
   exact sg
  ·have ea:t 2=.pointer (some ⟨B,16,none⟩):=hg 2 (Wt rfl)
   have f1:=(hb.cell (p:=⟨B,16,none⟩) hBl).trans h16
   exact sg
  ·exact sg
  ·exact sg
  ·have ea:t 5=.pointer (some ⟨B,0,none⟩):=hg 5 (Wt rfl)
   exact sg
  ·have ea:t 6=.pointer (some ⟨B,0,none⟩):=hg 6 (Wt rfl)
   exact sg
  ·have ea:t 7=.pointer (some ⟨B,16,none⟩):=hg 7 (Wt rfl)
   have f1:=(hb.cell (p:=⟨B,16,none⟩) hBl).trans h16
   exact sg
  ·exact sg
  ·have ea:t 8=.slice (some ⟨g,0,none⟩) m cap:=hg 8 (Wt rfl)
   have eb:t 9=.int .i64 (k:Nat):=hg 9 (Wt rfl)
   exact sg
  ·have ea:t 10=.pointer (some ⟨g,k*2,none⟩):=hg 10 (Wt rfl)
   exact sg
  ·have ea:t 11=.pointer (some ⟨g,k*2+1,none⟩):=hg 11 (Wt rfl)
   have f1:=(hb.cell (p:=⟨g,k*2+1,none⟩) hgl).trans hk1
   exact sg
  ·exact sg
  ·have e12:t 12=.slice a y.n y.n:=hg 12 (Wt rfl)
   have e13:t 13=.int .i64 x:=hg 13 (Wt rfl)
   refine Zi rfl rfl ?_
   have HK:=hid hK
   have HI:=hid (hin.growB hb hhb)
   clear hK hg hin
   go_simp
   go_at_call 162
   refine (KH y.n y.s a hbk x X hyn hasc (fun h=>ltl (hhb h) hb.size) HI.out).mono ?_
   rintro e Y ⟨ad',cap',b',rfl,ho,hlt,hor,hbY⟩
   have h:=HK.out _ Y ⟨ad',cap',b',rfl,ho,hlt,by rcases hor with h|h;exact Or.inl h;exact Or.inr (ltr hb.size h)⟩ hbY
   simpa [updT,e12,e13] using h
  ·have ea:t 3=.slice (some ⟨g,0,none⟩) m cap:=hg 3 (Wt rfl)
   have eb:t 4=.int .i64 (k:Nat):=hg 4 (Wt rfl)
   exact sg
  ·have ea:t 15=.pointer (some ⟨g,k*2,none⟩):=hg 15 (Wt rfl)
   exact sg
 ·intro t X K hb hg hK
  obtain ⟨ad',cap',b',eC,k1,k2,k3⟩:∃ ad' cap' b',t 14=.slice ad' (Zy y.n y.s x) cap'∧IntsOwn X b' (b'+1) ad' (Zy y.n y.s x) (ZJ y.n y.s x)∧b'<X.1.size∧((b'=hbk∧0<y.n)∨W.1.size≤b'):=hg 14 (by omega)
  have eP:t 16=.pointer (some ⟨g,k*2+1,none⟩):=hg 16 (by omega)
  exact apGg0
 ·rintro a X ⟨t,v3,rfl,hp⟩
  exact hQ t v3 X hp
def Gp (B g m cap k:Nat) (x:Int) (y:Ak) (a:Option Addr) (yc hbk:Nat) (W:World) (i:Nat) (v:Value) (X:World):Prop:=
 match i with
 | 0=>v=.pointer (some ⟨B,16,none⟩)
 | 1=>v=.slice (some ⟨g,0,none⟩) m cap
 | 2=>v=.int .i64 (k:Nat)
 | 3=>v=.pointer (some ⟨B,16,none⟩)
 | 4=>v=.slice (some ⟨g,0,none⟩) m cap
 | 5=>v=.int .i64 (k:Nat)
 | 6=>v=.pointer (some ⟨g,k*2,none⟩)
 | 7=>v=.pointer (some ⟨g,k*2+1,none⟩)
 | 8=>v=.slice a y.n yc
 | 9=>v=.int .i64 x
 | 10=>∃ ad' cap' b',v=.slice ad' (Zy y.n y.s x) cap'∧IntsOwn X b' (b'+1) ad' (Zy y.n y.s x) (ZJ y.n y.s x)∧b'<X.1.size∧((b'=hbk∧0<y.n)∨W.1.size≤b')
 | 11=>v=.pointer (some ⟨g,k*2,none⟩)
 | 12=>v=.pointer (some ⟨g,k*2+1,none⟩)
 | _=>True
set_option maxRecDepth 100000 in
theorem IY (p0 p1 p4 p5 p6 p8 p9 ze zc za zd zi zj zg zh zn zm zo zp zq yb yf ye z9 yd z8 z0 zu zy zt yg yi yj yh yk ym yo yr yt xo jo jm jp j7 kj ko j8 j5 j9 kg kd jw ju xe xh:Value) (w0 w1 w2 w3 w4 w5 w6 w7 w8 w9 w10 w11 w12:Value) (B g m cap k:Nat) (x:Int) (y:Ak) (a:Option Addr) (yc hbk:Nat) (W:World) (h16:W.cell? ⟨B,16,none⟩=some (.slice (some ⟨g,0,none⟩) m cap)) (hBl:B<W.1.size) (hgl:g<W.1.size) (hk1:W.cell? ⟨g,k*2+1,none⟩=some (.slice a y.n yc)) (hfz:W.frozen? ⟨g,k*2+1,none⟩=false) (hkm:k<m) (_hm:m≤1000) (hyn:y.n≤999) (hyc:y.n≤yc) (hhb:0<y.n→hbk<W.1.size) (hin:IntsOwn W hbk (hbk+1) a y.n y.s) (Q:Exit→Act→World→Prop) (hQ:∀ (t:Nat→Value) (_v3:Value) X,(∃ ad' cap' b' Y,X=Y.setCell ⟨g,k*2+1,none⟩ (.slice ad' (Zy y.n y.s x) cap')∧IntsOwn Y b' (b'+1) ad' (Zy y.n y.s x) (ZJ y.n y.s x)∧b'<Y.1.size∧((b'=hbk∧0<y.n)∨W.1.size≤b')∧Below W.1.size W Y)→Q .normal ⟨#[p0,p1,.int .i64 x,.pointer (some ⟨B,0,none⟩),p4,p5,p6,.int .i64 (k:Nat),p8,p9,ze,zc,za,zd,zi,zj,zg,zh,zn,zm,zo,zp,zq,yb,yf,ye,z9,yd,z8,z0,zu,zy,zt,yg,yi,yj,yh,yk,ym,yo,yr,yt,xo,jo,jm,jp,j7,kj,ko,j8,j5,j9,kg,kd,jw,ju,t 0,t 1,t 2,t 3,t 4,t 5,t 6,t 7,t 8,t 9,t 10,t 11,t 12,xe,xh],[]⟩ X) :
  Code.wp Tryz.prog (Code.region 6 #[⟨some 56,.fieldAddr 38 (.tmp 3) 12,0,GC,#[],none⟩,⟨some 57,.load 36 (.tmp 56),36,GC,#[⟨0,.data⟩],none⟩,⟨some 58,.move (.tmp 7),3,GC,#[],none⟩,⟨some 59,.fieldAddr 38 (.tmp 3) 12,0,GC,#[],none⟩,⟨some 60,.load 36 (.tmp 59),36,GC,#[⟨3,.data⟩],none⟩,⟨some 61,.move (.tmp 7),3,GC,#[],none⟩,⟨some 62,.indexAddr 36 (.tmp 60) (.tmp 61),0,GC,#[⟨4,.data⟩,⟨5,.data⟩],none⟩,⟨some 63,.fieldAddr 108 (.tmp 62) 1,0,GC,#[⟨6,.data⟩],none⟩,⟨some 64,.load 27 (.tmp 63),27,GC,#[⟨7,.data⟩],none⟩,⟨some 65,.move (.tmp 2),3,GC,#[],none⟩,⟨some 66,.call ⟨.value (.func 83),#[.tmp 64,.tmp 65],#[27,3]⟩,27,GC,#[⟨8,.data⟩,⟨9,.data⟩],none⟩,⟨some 67,.indexAddr 36 (.tmp 57) (.tmp 58),0,GC,#[⟨1,.data⟩,⟨2,.data⟩,⟨0,.phase⟩,⟨1,.phase⟩,⟨2,.phase⟩,⟨3,.phase⟩,⟨4,.phase⟩,⟨5,.phase⟩,⟨6,.phase⟩,⟨7,.phase⟩,⟨8,.phase⟩,⟨9,.phase⟩,⟨10,.phase⟩],none⟩,⟨some 68,.fieldAddr 108 (.tmp 67) 1,0,GC,#[⟨11,.data⟩,⟨0,.phase⟩,⟨1,.phase⟩,⟨2,.phase⟩,⟨3,.phase⟩,⟨4,.phase⟩,⟨5,.phase⟩,⟨6,.phase⟩,⟨7,.phase⟩,⟨8,.phase⟩,⟨9,.phase⟩,⟨10,.phase⟩],none⟩,⟨none,.store 27 (.tmp 68) (.tmp 66),0,GC,#[⟨12,.data⟩,⟨10,.data⟩,⟨10,.chain⟩,⟨0,.phase⟩,⟨1,.phase⟩,⟨2,.phase⟩,⟨3,.phase⟩,⟨4,.phase⟩,⟨5,.phase⟩,⟨6,.phase⟩,⟨7,.phase⟩,⟨8,.phase⟩,⟨9,.phase⟩,⟨10,.phase⟩],none⟩] true) Q ⟨#[p0,p1,.int .i64 x,.pointer (some ⟨B,0,none⟩),p4,p5,p6,.int .i64 (k:Nat),p8,p9,ze,zc,za,zd,zi,zj,zg,zh,zn,zm,zo,zp,zq,yb,yf,ye,z9,yd,z8,z0,zu,zy,zt,yg,yi,yj,yh,yk,ym,yo,yr,yt,xo,jo,jm,jp,j7,kj,ko,j8,j5,j9,kg,kd,jw,ju,w0,w1,w2,w3,w4,w5,w6,w7,w8,w9,w10,w11,w12,xe,xh],[]⟩ W:=by
 refine ZL (by kernel_rfl) 13 (fun t:Nat→Value=>#[p0,p1,.int .i64 x,.pointer (some ⟨B,0,none⟩),p4,p5,p6,.int .i64 (k:Nat),p8,p9,ze,zc,za,zd,zi,zj,zg,zh,zn,zm,zo,zp,zq,yb,yf,ye,z9,yd,z8,z0,zu,zy,zt,yg,yi,yj,yh,yk,ym,yo,yr,yt,xo,jo,jm,jp,j7,kj,ko,j8,j5,j9,kg,kd,jw,ju,t 0,t 1,t 2,t 3,t 4,t 5,t 6,t 7,t 8,t 9,t 10,t 11,t 12,xe,xh]) (fun i=>match i with|0=>w0|1=>w1|2=>w2|3=>w3|4=>w4|5=>w5|6=>w6|7=>w7|8=>w8|9=>w9|10=>w10|11=>w11|_=>w12) (Gp B g m cap k x y a yc hbk W) (fun a X=>∃ (t:Nat→Value) (v3:Value),a=⟨#[p0,p1,.int .i64 x,.pointer (some ⟨B,0,none⟩),p4,p5,p6,.int .i64 (k:Nat),p8,p9,ze,zc,za,zd,zi,zj,zg,zh,zn,zm,zo,zp,zq,yb,yf,ye,z9,yd,z8,z0,zu,zy,zt,yg,yi,yj,yh,yk,ym,yo,yr,yt,xo,jo,jm,jp,j7,kj,ko,j8,j5,j9,kg,kd,jw,ju,t 0,t 1,t 2,t 3,t 4,t 5,t 6,t 7,t 8,t 9,t 10,t 11,t 12,xe,xh],[]⟩∧(∃ ad' cap' b' Y,X=Y.setCell ⟨g,k*2+1,none⟩ (.slice ad' (Zy y.n y.s x) cap')∧IntsOwn Y b' (b'+1) ad' (Zy y.n y.s x) (ZJ y.n y.s x)∧b'<Y.1.size∧((b'=hbk∧0<y.n)∨W.1.size≤b')∧Below W.1.size W Y)) (by kernel_rfl) (by kernel_rfl) (by kernel_rfl) ?_ rfl ?_ ?_ ?_
 ·intro i v X Y hi h hb
  rcases (show i=0∨i=1∨i=2∨i=3∨i=4∨i=5∨i=6∨i=7∨i=8∨i=9∨i=10∨i=11∨i=12 by omega) with rfl|rfl|rfl|rfl|rfl|rfl|rfl|rfl|rfl|rfl|rfl|rfl|rfl
  ·exact h
  ·exact h
  ·exact h
  ·exact h
  ·exact h
  ·exact h
  ·exact h
  ·exact h
  ·exact h
  ·exact h
  ·obtain ⟨ad',cap',b',e1,e2,e3,e4⟩:=h
   exact ⟨ad',cap',b',e1,e2.growB hb (fun _=>e3),ltl e3 hb.size,e4⟩
  ·exact h
  ·exact h
 ·intro i hi t X K hb hg hK
  rcases (show i=0∨i=1∨i=2∨i=3∨i=4∨i=5∨i=6∨i=7∨i=8∨i=9∨i=10∨i=11∨i=12 by omega) with rfl|rfl|rfl|rfl|rfl|rfl|rfl|rfl|rfl|rfl|rfl|rfl|rfl
  ·exact sg
  ·have ea:t 0=.pointer (some ⟨B,16,none⟩):=hg 0 (Wt rfl)
   have f1:=(hb.cell (p:=⟨B,16,none⟩) hBl).trans h16
   exact sg
  ·exact sg
  ·exact sg
  ·have ea:t 3=.pointer (some ⟨B,16,none⟩):=hg 3 (Wt rfl)
   have f1:=(hb.cell (p:=⟨B,16,none⟩) hBl).trans h16
   exact sg
  ·exact sg
  ·have ea:t 4=.slice (some ⟨g,0,none⟩) m cap:=hg 4 (Wt rfl)
   have eb:t 5=.int .i64 (k:Nat):=hg 5 (Wt rfl)
   exact sg
  ·have ea:t 6=.pointer (some ⟨g,k*2,none⟩):=hg 6 (Wt rfl)
   exact sg
  ·have ea:t 7=.pointer (some ⟨g,k*2+1,none⟩):=hg 7 (Wt rfl)
   have f1:=(hb.cell (p:=⟨g,k*2+1,none⟩) hgl).trans hk1
   exact sg
  ·exact sg
  ·have e8:t 8=.slice a y.n yc:=hg 8 (Wt rfl)
   have e9:t 9=.int .i64 x:=hg 9 (Wt rfl)
   refine Zi rfl rfl ?_
   have HK:=hid hK
   have HI:=hid (hin.growB hb hhb)
   clear hK hg hin
   go_simp
   go_at_call 83
   refine (KE y.n y.s a yc hbk x X hyn hyc (fun h=>ltl (hhb h) hb.size) HI.out).mono ?_
   rintro e Y ⟨ad',cap',b',rfl,ho,hlt,hor,hbY⟩
   have h:=HK.out _ Y ⟨ad',cap',b',rfl,ho,hlt,by rcases hor with h|h;exact Or.inl h;exact Or.inr (ltr hb.size h)⟩ hbY
   simpa [updT,e8,e9] using h
  ·have ea:t 1=.slice (some ⟨g,0,none⟩) m cap:=hg 1 (Wt rfl)
   have eb:t 2=.int .i64 (k:Nat):=hg 2 (Wt rfl)
   exact sg
  ·have ea:t 11=.pointer (some ⟨g,k*2,none⟩):=hg 11 (Wt rfl)
   exact sg
 ·intro t X K hb hg hK
  obtain ⟨ad',cap',b',eC,k1,k2,k3⟩:∃ ad' cap' b',t 10=.slice ad' (Zy y.n y.s x) cap'∧IntsOwn X b' (b'+1) ad' (Zy y.n y.s x) (ZJ y.n y.s x)∧b'<X.1.size∧((b'=hbk∧0<y.n)∨W.1.size≤b'):=hg 10 (by omega)
  have eP:t 12=.pointer (some ⟨g,k*2+1,none⟩):=hg 12 (by omega)
  exact apGg0
 ·rintro a X ⟨t,v3,rfl,hp⟩
  exact hQ t v3 X hp
end Go.Proofs.YtokkbdlofbdljaaGreat
