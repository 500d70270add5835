import Derived.Test.YtokkbdlofbdljaaGreatYs0
import Derived.Test.YtokkbdlofbdljaaGreatEe
import Derived.Test.YtokkbdlofbdljaaGreatYsh
import Derived.Test.YtokkbdlofbdljaaGreatEr
import Derived.Test.YtokkbdlofbdljaaGreatK
import Derived.ProofKit
import Derived.SizedLaws
import Derived.Deep.Slices
import Derived.Deep.Strs
namespace Go.Proofs.YtokkbdlofbdljaaGreat
open Go.RowKit
open Go.ChangeShapes Go.WideShapes Go.ChangeAt Go.RowKit Go.Deep
set_option maxHeartbeats 8000000
theorem Uv (r:Rc) (A:RcA) (w:World) (lo hi:Nat) (hhi:hi≤w.1.size) (hf:ZR r) (hc:RcIn w lo hi r A) :
  Calls Tryz.prog 30 #[rcV r A] w fun e w'=>e=.returned (.bool (rcB r))∧Below w.1.size w w':=sv_all r r.ld r.tr r.up A w lo hi hhi hf hc
theorem EE {d:Dk} (h:dkB d=true):∀ i,i<d.kn.toNat→0<(d.s i).bal:=fun i hi=>by
 simp only [dkB,Bool.and_eq_true] at h
 have h2:=h.2.2.2.2
 simp only [XF] at h2
 have:=allTo_iff.1 h2 i hi
 simpa using this
structure Lim (r:Rc):Prop where
 sn:r.sf.n≤60
 st:∀ i,i<r.sf.n→(r.sf.s i).text.size≤100
 dn:r.dk.n≤60
 dt:∀ i,i<r.dk.n→(r.dk.s i).text.size≤100
 hn:r.hn≤400
 hm:∀ i,i<r.hn→(r.hs i).text.size≤100∧(r.hs i).n≤60∧∀ j,j<(r.hs i).n→((r.hs i).s j).text.size≤100
 wn:r.wn≤20
 wt:∀ i,i<r.wn→(r.ws i).size≤100
 yn:r.yn≤11
 bn:r.bn≤60
 bt:∀ i,i<r.bn→(r.bs i).text.size≤100
 an:r.an≤61
 fn:∀ i,i<r.an→(r.as_ i).n≤11
def LimM (m:Ms):Prop:=m.text.size≤100∧m.n≤60∧∀ j,j<m.n→(m.s j).text.size≤100
theorem LimM.none (k f to b ix kn:Int) {tx:ByteArray} (h:tx.size≤100) (s:Nat→Sl):LimM ⟨k,f,to,b,ix,kn,tx,0,s⟩:=⟨h,zle _,fun _j hj=>absurd hj (nlz _)⟩
theorem Lim.hold {r:Rc} (h:Lim r) {m:Ms} (hm:LimM m):Lim (Zo r m):=by
 unfold Zo
 split
 ·rename_i h4
  exact ⟨h.sn,h.st,h.dn,h.dt,(by show r.hn+1≤400;omega),fun i hi=>by
   show (updF r.hs r.hn (msF r m) i).text.size≤100∧(updF r.hs r.hn (msF r m) i).n≤60∧∀ j,j<(updF r.hs r.hn (msF r m) i).n→((updF r.hs r.hn (msF r m) i).s j).text.size≤100
   by_cases e:i=r.hn
   ·subst e
    rw [Zm]
    exact hm
   ·rw [Zn _ _ e]
    have hi':i<r.hn+1:=hi
    exact h.hm i (by omega),h.wn,h.wt,h.yn,h.bn,h.bt,h.an,h.fn⟩
 ·exact h
theorem Lim.kn {r:Rc} (h:Lim r) (P:Int):Lim (knR r P):=⟨h.sn,h.st,h.dn,h.dt,h.hn,h.hm,h.wn,h.wt,h.yn,h.bn,h.bt,h.an,h.fn⟩
theorem Lim.leadS {r:Rc} (h:Lim r):Lim (leadS r):=⟨h.sn,h.st,h.dn,h.dt,h.hn,h.hm,h.wn,h.wt,zle _,zle _,fun _i hi=>absurd hi (nlz _),zle _,fun _i hi=>absurd hi (nlz _)⟩
theorem Lim.put {r:Rc} (h:Lim r) {k:Nat} (hk:k<60) {x:Sl} (hx:x.text.size≤100):Lim (JA r k x):=by
 have hd:=h.dn
 exact ⟨h.sn,h.st,(by show r.dk.n+(k+1-r.dk.n)≤60;omega),fun i hi=>by
  show (updF (fun i=>if i<r.dk.n then r.dk.s i else ⟨0,⟨#[]⟩⟩) k x i).text.size≤100
  by_cases e:i=k
  ·subst e
   rw [Zm]
   exact hx
  ·rw [Zn _ _ e]
   show (if i<r.dk.n then r.dk.s i else ⟨0,⟨#[]⟩⟩:Sl).text.size≤100
   split
   ·exact h.dt i (by assumption)
   ·exact zle _,h.hn,h.hm,h.wn,h.wt,h.yn,h.bn,h.bt,h.an,h.fn⟩
theorem Lim.have_ {r:Rc} (h:Lim r) (h6:r.an≤60) (ix:Int):Lim (Jg r ix)∧(Jg r ix).an≤61:=by
 unfold Jg
 split
 ·exact ⟨h,by omega⟩
 ·have hk:=KG (fun i=>(r.as_ i).ix) ix r.an
  exact ⟨⟨h.sn,h.st,h.dn,h.dt,h.hn,h.hm,h.wn,h.wt,h.yn,h.bn,h.bt,(by show r.an+1≤61;omega),fun i hi=>by
   have hi':i<r.an+1:=hi
   show (YF r.as_ (rk (fun i=>(r.as_ i).ix) ix r.an) (ak0 ix) i).n≤11
   unfold YF
   split
   ·exact h.fn i (by omega)
   ·split
    ·exact zle _
    ·exact h.fn (i-1) (by omega)⟩,by show r.an+1≤61;omega⟩
theorem have_n {r:Rc} (h6:∀ i,i<r.an→(r.as_ i).n≤10) (ix:Int):((Jg r ix).as_ (rk (fun i=>(r.as_ i).ix) ix r.an)).n≤10:=by
 unfold Jg
 have hk:=KG (fun i=>(r.as_ i).ix) ix r.an
 split
 ·rename_i hh
  simp only [XN,Bool.and_eq_true,decide_eq_true_eq] at hh
  exact h6 _ hh.1
 ·show (YF r.as_ _ (ak0 ix) _).n≤10
  rw [Yf]
  exact zle _
theorem Lim.took {r:Rc} (h:Lim r) (h6:r.an≤60) (h7:∀ i,i<r.an→(r.as_ i).n≤10) (x ix:Int):Lim (Ya r x ix):=by
 have h1:=(h.have_ h6 ix).1
 have h2:=have_n h7 ix
 unfold Ya UJ
 refine Lim.kn ?_ _
 generalize Jg r ix=q at *
 generalize rk (fun i=>(r.as_ i).ix) ix r.an=k at *
 unfold Zw
 clear h h6 h7
 have h:=h1
 exact ⟨h.sn,h.st,h.dn,h.dt,h.hn,h.hm,h.wn,h.wt,h.yn,h.bn,h.bt,h.an,fun i hi=>by
  have hi':i<q.an:=hi
  show (akS q.as_ k _ _ i).n≤11
  unfold akS
  by_cases e:i=k
  ·subst e
   rw [Zm]
   exact ltr (IX _ _ _) (by omega)
  ·rw [Zn _ _ e]
   exact h.fn i hi'⟩
theorem Lim.yes {r:Rc} (h:Lim r) {n:Nat} (hn:n≤11) (s:Nat→Int):Lim (XM r n s):=⟨h.sn,h.st,h.dn,h.dt,h.hn,h.hm,h.wn,h.wt,hn,h.bn,h.bt,h.an,h.fn⟩
theorem Lim.best {r:Rc} (h:Lim r) {n:Nat} (hn:n≤60) {s:Nat→Sl} (hs:∀ i,i<n→(s i).text.size≤100):Lim (ZU r n s):=⟨h.sn,h.st,h.dn,h.dt,h.hn,h.hm,h.wn,h.wt,h.yn,hn,hs,h.an,h.fn⟩
theorem mgS_lim {na nb:Nat} {x y:Nat→Sl} (hx:∀ i,i<na→(x i).text.size≤100) (hy:∀ i,i<nb→(y i).text.size≤100):∀ i,i<max na nb→(mgS na x nb y i).text.size≤100:=fun i hi=>by
 unfold mgS
 split
 ·rename_i h1
  split
  ·rename_i h2
   split
   ·exact hy i h2
   ·exact hx i h1
  ·exact hx i h1
 ·exact hy i (by omega)
theorem Lim.leadK {r:Rc} (h:Lim r) {bs:Nat→Sl} {a n:Nat} (hb:∀ i,i<n→(bs i).text.size≤100) (hn:n≤60):∀ k,a+k≤n→Lim (YS r bs a k)
 | 0,_=>h
 | k+1,hk=>(h.leadK hb hn k (by omega)).put (by omega) (hb _ (by omega))
theorem Lim.lead {r:Rc} (h:Lim r):Lim (JF r):=by
 unfold JF
 by_cases e:r.dk.kn.toNat≤r.bn
 ·exact h.leadS.leadK h.bt h.bn _ (by omega)
 ·rw [show r.bn-r.dk.kn.toNat=0 by omega]
  exact h.leadS
theorem Lim.prom {r:Rc} (h:Lim r) (hy:r.yn≤10) (x:Int) {mn:Nat} {ms:Nat→Sl} (hmn:mn≤60) (hms:∀ i,i<mn→(ms i).text.size≤100):Lim (Je r x mn ms):=by
 have h1:Lim (ZU (XM r (Zy r.yn r.ys x) (ZJ r.yn r.ys x)) (max r.bn mn) (mgS r.bn r.bs mn ms)):=
  (h.yes (ltr (IX _ _ _) (by omega)) _).best (by have:=h.bn;omega) (mgS_lim h.bt hms)
 unfold Je
 split
 ·exact h1.lead
 ·exact h1
theorem Lim.fit {r:Rc} (h:Lim r):ZR r:=
 ⟨⟨by have:=h.sn;omega,fun i hi=>⟨by have:=h.st i hi;omega⟩⟩,⟨by have:=h.dn;omega,fun i hi=>⟨by have:=h.dt i hi;omega⟩⟩,by have:=h.hn;omega,fun i hi=>⟨by have:=(h.hm i hi).1;omega,by have:=(h.hm i hi).2.1;omega,fun j hj=>⟨by have:=(h.hm i hi).2.2 j hj;omega⟩⟩,by have:=h.wn;omega,fun i hi=>by have:=h.wt i hi;omega,by have:=h.yn;omega,by have:=h.bn;omega,fun i hi=>⟨by have:=h.bt i hi;omega⟩,by have:=h.an;omega,fun i hi=>⟨by have:=h.fn i hi;omega⟩⟩
theorem Lim.small {r:Rc} (h:Lim r):ZW r:=
 ⟨by have:=h.sn;omega,by have:=h.dn;omega,by have:=h.hn;omega,fun i hi=>by have:=(h.hm i hi).2.1;omega,by have:=h.wn;omega,by have:=h.yn;omega,by have:=h.bn;omega,by have:=h.an;omega,fun i hi=>by have:=h.fn i hi;omega⟩
theorem Nh (k0:Nat) (x:Nat→Ms):∀ n,(∀ i,i<n→(x i).n≤60)→ZS k0 x n≤k0+127*n
 | 0,_=>by show k0≤_;omega
 | n+1,h=>by
  have ih:=Nh k0 x n (fun i hi=>h i (by omega))
  have:=h n (by omega)
  show ZS k0 x n+7+2*(x n).n≤_
  omega
theorem NX (k0:Nat) (x:Nat→Ak):∀ n,(∀ i,i<n→(x i).n≤11)→ZT k0 x n≤k0+12*n
 | 0,_=>by show k0≤_;omega
 | n+1,h=>by
  have ih:=NX k0 x n (fun i hi=>h i (by omega))
  have:=h n (by omega)
  show ZT k0 x n+1+(x n).n≤_
  omega
theorem Lim.mark {r:Rc} (h:Lim r) (k0:Nat):mkRc k0 r≤k0+100000:=by
 have h1:=NX (kk6 k0 r) r.as_ r.an h.fn
 have h2:=Nh (kk2 k0 r) r.hs r.hn (fun i hi=>(h.hm i hi).2.1)
 have:=h.sn;have:=h.dn;have:=h.hn;have:=h.wn;have:=h.yn;have:=h.bn;have:=h.an
 unfold mkRc
 unfold kk6 kk5 kk4 kk3 at *
 unfold kk2 kk1 at *
 omega
theorem IL {n:Nat} {s:Nat→Int} (h:∀ i,i<n→i=0∨s (i-1)<s i):∀ i j,i<j→j<n→s i<s j:=fun i j=>by
 induction j with
 | zero=>intro h1;exact absurd h1 (nlz _)
 | succ j ih=>
  intro h1 h2
  have h3:=h (j+1) h2
  simp only [Nat.add_sub_cancel] at h3
  have h4:s j<s (j+1):=by
   rcases h3 with h3|h3
   ·omega
   ·exact h3
  by_cases e:i=j
  ·subst e;exact h4
  ·have:=ih (by omega) (by omega);omega
theorem asc_ge {n:Nat} {s:Nat→Int} (h:∀ i,i<n→i=0∨s (i-1)<s i) (h1:∀ i,i<n→1≤s i):∀ i,i<n→(i:Int)+1≤s i:=fun i=>by
 induction i with
 | zero=>intro hi;have:=h1 0 hi;omega
 | succ i ih=>
  intro hi
  have h3:=h (i+1) hi
  simp only [Nat.add_sub_cancel] at h3
  have:=ih (by omega)
  rcases h3 with h3|h3<;>omega
theorem PO {n:Nat} {s:Nat→Int} {o:Int} (h:∀ i,i<n→i=0∨s (i-1)<s i) (h1:∀ i,i<n→1≤s i∧s i≤o) (ho:0≤o):(n:Int)≤o:=by
 by_cases e:n=0
 ·omega
 ·have:=asc_ge h (fun i hi=>(h1 i hi).1) (n-1) (by omega)
  have:=(h1 (n-1) (by omega)).2
  omega
theorem JK {of:Int} {n:Nat} {s:Nat→Int} (h:numB of n s=true):(∀ i,i<n→1≤s i∧s i≤of)∧(∀ i,i<n→i=0∨s (i-1)<s i):=by
 simp only [numB,ascI,Bool.and_eq_true,allTo_iff] at h
 exact ⟨fun i hi=>Yj (h.1 i hi),fun i hi=>by have:=h.2 i hi;simpa using this⟩
theorem XR {n:Nat} {x:Nat→Sl} (h:slsB n x=true):n≤60∧∀ i,i<n→(x i).text.size≤100:=by
 simp only [slsB,Bool.and_eq_true,allTo_iff,decide_eq_true_eq] at h
 exact ⟨h.1,fun i hi=>by have:=h.2 i hi;simp only [slB,Bool.and_eq_true,decide_eq_true_eq] at this;have:=this.2.1;omega⟩
theorem J0 {m:Ms} {of:Int} (h:msB m of=true):LimM m∧(1≤m.kind∧m.kind≤9)∧(0≤m.bal∧m.bal≤1000000)∧(0≤m.ix∧m.ix≤60)∧(0≤m.kn∧m.kn≤60)∧(1≤m.from_∧m.from_≤of):=by
 simp only [msB,Bool.and_eq_true,decide_eq_true_eq] at h
 obtain ⟨h1,h2,h3,h4,h5,h6,h7,h8⟩:=h
 have:=XR h8
 exact ⟨⟨by omega,this.1,this.2⟩,Yj h1,Yj h4,Yj h5,Yj h6,Yj h2⟩
structure VdR (r:Rc):Prop where
 lim:Lim r
 yn:r.yn≤10
 yasc:∀ i j,i<j→j<r.yn→r.ys i<r.ys j
 ack:EK r
 bal:∀ i,i<r.dk.kn.toNat→0<(r.dk.s i).bal
theorem VdR.of {r:Rc} (h:rcB r=true):VdR r:=by
 have hd0:=Fb h
 have hk:=EF hd0
 have ht:=EE hd0
 simp only [rcB,Yw,Bool.and_eq_true] at h
 obtain ⟨_,h1,h2,h3,h4,h5,h6,h7,h8,h9,_,_⟩:=h
 simp only [Yc,Bool.and_eq_true] at h1
 have ho:=Yj h1.1
 have a2:r.sf.n≤60∧∀ i,i<r.sf.n→(r.sf.s i).text.size≤100:=by simp only [dkB,Bool.and_eq_true] at h2;exact XR h2.2.1
 have a3:r.dk.n≤60∧∀ i,i<r.dk.n→(r.dk.s i).text.size≤100:=by simp only [dkB,Bool.and_eq_true] at h3;exact XR h3.2.1
 simp only [ZZ,Bool.and_eq_true,decide_eq_true_eq,allTo_iff] at h4
 have a4:∀ i,i<r.hn→LimM (r.hs i):=fun i hi=>by have:=h4.2 i hi;simp only [oneB,Bool.and_eq_true] at this;exact (J0 this.2).1
 simp only [ZA,Bool.and_eq_true,decide_eq_true_eq,allTo_iff] at h5
 have a5:∀ i,i<r.wn→(r.ws i).size≤100:=fun i hi=>by have:=h5.2 i hi;simp only [Xz,Bool.and_eq_true] at this;have:=Yj this.1;omega
 have a7:=JK h7
 have n7:=PO a7.2 a7.1 (by omega)
 have a8:=XR h8
 simp only [aksB,ascA,Bool.and_eq_true,allTo_iff] at h9
 have a9:∀ i,i<r.an→(1≤(r.as_ i).ix∧(r.as_ i).ix≤60)∧numB r.of (r.as_ i).n (r.as_ i).s=true:=fun i hi=>by have:=h9.1 i hi;simp only [akOk,Bool.and_eq_true] at this;exact ⟨Yj this.1,this.2⟩
 have b9:∀ i,i<r.an→i=0∨(r.as_ (i-1)).ix<(r.as_ i).ix:=fun i hi=>by have:=h9.2 i hi;simpa using this
 have n9:=PO (s:=fun i=>(r.as_ i).ix) (o:=60) b9 (fun i hi=>(a9 i hi).1) (by omega)
 have f9:∀ i,i<r.an→(r.as_ i).n≤5:=fun i hi=>by have f:=JK (a9 i hi).2;have:=PO f.2 f.1 (by omega);omega
 exact ⟨⟨a2.1,a2.2,a3.1,a3.2,h4.1,a4,h5.1,a5,by omega,a8.1,a8.2,by omega,fun i hi=>by have:=f9 i hi;omega⟩,by omega,IL a7.2,⟨by omega,fun i hi=>by have:=(a9 i hi).1;omega,IL (s:=fun i=>(r.as_ i).ix) b9,fun i hi=>by have:=f9 i hi;omega,fun i hi=>IL (JK (a9 i hi).2).2,hk.1,hk.2,a3.1⟩,ht⟩
theorem rc0_lim:Lim (rc0 0 0 false):=⟨zle _,fun _i hi=>absurd hi (nlz _),zle _,fun _i hi=>absurd hi (nlz _),zle _,fun _i hi=>absurd hi (nlz _),zle _,fun _i hi=>absurd hi (nlz _),zle _,zle _,fun _i hi=>absurd hi (nlz _),zle _,fun _i hi=>absurd hi (nlz _)⟩
def slC (x:Nat→Sl) (j:Nat):Value:=if j % 2=0 then .int .i64 (x (j / 2)).bal else .string (x (j / 2)).text
theorem EZ (x:Nat→Sl) (i:Nat):atSl (slC x) i (x i):=by
 unfold atSl slC
 refine ⟨?_,?_⟩
 ·rw [if_pos (by omega),show i*2 / 2=i by omega]
 ·rw [if_neg (by omega),show (i*2+1) / 2=i by omega]
theorem SlsIn.news {w:World} {lo hi b o n:Nat} {x:Nat→Sl} (h:SlsIn w lo hi (some ⟨b,o,none⟩) n x):∀ j u,(Zg (n*2) (slC x))[j]? = some u→w.cell? ((⟨b,o,none⟩:Addr).add j)=some u:=fun j u hu=>by
 obtain ⟨h1,rfl⟩:=ZP hu
 obtain ⟨b',off,e1,e2,e3,e4⟩:=h (j / 2) (by omega)
 obtain ⟨rfl,rfl⟩:b=b'∧o=off:=by simpa using e1
 rw [show ((⟨b,o,none⟩:Addr).add j)=⟨b,o+j,none⟩ by unfold Addr.add;split<;>simp_all]
 unfold slC
 split
 ·rw [show o+j=o+j / 2*2 by omega];exact e4.c0
 ·rw [show o+j=o+j / 2*2+1 by omega];exact e4.c1
set_option maxRecDepth 100000 in
theorem El (n:Nat) (x:Nat→Sl) (ba oa cap:Nat) (w:World) (lo hi:Nat) (hhi:hi≤w.1.size) (hl:(n:Int)≤1048576) (hc:SlsIn w lo hi (some ⟨ba,oa,none⟩) n x) :
  Calls Tryz.prog 82 #[.slice (some ⟨ba,oa,none⟩) n cap] w fun e w'=>∃ v,e=.returned v∧w'.ownsRow w.1.size 109 2 v n (Zg (n*2) (slC x))∧Below w.1.size w w':=by
 obtain ⟨i0,hi0,hz0,hz1,hz2⟩:=info_parts Tryz.info109
 have HC:=hid (hc.below (Zb w (.cells #[] 109)) hhi)
 have OWN:=hid (World.ownsRow_lit (base:=w.1.size) (e:=109) (size:=2) w #[] 0 (lrf _) (zle _) rfl)
 clear hc
 go_enter Tryz.func82,Tryz.ntmps82
 go_wp2_with ((with_reducible show wpList _ _ _ (⟨some 5,_,_,_,_,_⟩::_) _ _);go_must (refine wpList_append_own_at _ rfl _ _ 32 rfl w.1.size 109 i0 _ 2 24 Tryz.underlying32 hi0 hz0 hz1 hz2 rfl (by decide) _ 0 [] rfl OWN.out ⟨ba,oa,none⟩ n cap (Zg (n*2) (slC x)) rfl (Zj _ _) HC.out.news (Kz (fun i _=>EZ x i)) (by unfold maxLen;omega) (by omega) (by simp) ?_;intro v7 w7 hown7 hgrow7 hnil7 hat7;have HO7:=hid hown7;have HG7:=hid hgrow7;clear hown7 hgrow7 hnil7 hat7))
 go_ret
 refine ⟨_,rfl,by simpa using HO7.out,?_⟩
 exact (Zb w (.cells #[] 109)).grown HG7.out (by simp) (fun k hk=>by have e:some w.1.size=some k:=hk;simp at e;omega)
theorem own_len {w:World} {base e z n:Nat} {v:Value} {xs:List Value} (h:w.ownsRow base e z v n xs):∃ ad cap,v=.slice ad n cap:=by
 rcases h.2 with ⟨rfl,rfl⟩|⟨g,cap,cur,rfl,_⟩
 ·exact ⟨_,_,rfl⟩
 ·exact ⟨_,_,rfl⟩
theorem Fj {w:World} {base e z n cap:Nat} {ad:Option Addr} {xs:List Value} (h:w.ownsRow base e z (.slice ad n cap) n xs) (hn:0<n):∃ g,ad=some ⟨g,0,none⟩:=by
 rcases h.2 with ⟨_,h0⟩|⟨g,cap',cur,e1,_⟩
 ·omega
 ·exact ⟨g,(Value.slice.injEq ..▸e1).1⟩
theorem slc_of {w:World} {lo hi b o n k:Nat} {x:Nat→Sl} (h:SlsIn w lo hi (some ⟨b,o,none⟩) n x) (hk:k<n):SlCells w b (o+k*2) (x k):=by
 obtain ⟨b',off,e1,e2,e3,e4⟩:=h k hk
 obtain ⟨rfl,rfl⟩:b=b'∧o=off:=by simpa using e1
 exact e4
theorem JV (m o:Nat) (c:Nat→Value) (v:Value):(Zg m c).set o v=Zg m (setF c o v):=by
 apply List.ext_getElem
 ·simp [Zg]
 ·intro j h1 h2
  rw [List.getElem_set]
  by_cases h:o=j
  ·rw [if_pos h,ZG]
   exact (if_pos h.symm).symm
  ·rw [if_neg h,ZG,ZG]
   exact (if_neg (fun e=>h e.symm)).symm
set_option maxRecDepth 100000 in
theorem Ux (na nb:Nat) (x y:Nat→Sl) (ba oa ca bb ob cb:Nat) (w:World) (lo hi:Nat) (hhi:hi≤w.1.size) (hla:(na:Int)≤1048576) (hlb:(nb:Int)≤1048576) (_hca:na≤ca) (hcb:nb≤cb) (hx:SlsIn w lo hi (some ⟨ba,oa,none⟩) na x) (hy:SlsIn w lo hi (some ⟨bb,ob,none⟩) nb y) :
  Calls Tryz.prog 84 #[.slice (some ⟨ba,oa,none⟩) na ca,.slice (some ⟨bb,ob,none⟩) nb cb] w fun e w'=>∃ ad' cap' g,e=.returned (.slice ad' (max na nb) cap')∧SlsAt w' ad' g (max na nb) (mgS na x nb y)∧w.1.size≤g∧(max na nb≠0→g<w'.1.size)∧Below w.1.size w w':=by
 obtain ⟨i0,hi0,hz0,hz1,hz2⟩:=info_parts Tryz.info109
 have HX:=hid hx
 have HY:=hid hy
 clear hx hy
 go_enter Tryz.func84,Tryz.ntmps84
 go_wp2_with fail
 refine (El na x ba oa ca w lo hi hhi hla HX.out).mono ?_
 rintro e w1 ⟨v1,rfl,ho1,hb1⟩
 have HO1:=hid ho1
 clear ho1
 have z1:=hb1.size
 have HX1:=hid (HX.out.below hb1 hhi)
 clear HX
 go_wp2_with fail
 go_loopw [5,6] (fun v i wr=>∃ (k:Nat) (c:Nat→Value),i=.int .i64 k∧k≤nb∧Below w.1.size w wr∧Hid (wr.ownsRow w.1.size 109 2 v (max na k) (Zg (max na k*2) c))∧Hid (∀ i,i<max na k→atSl c i (mgS na x k y i))) (fun _ i _=>nb-(intOf i).toNat)
 case atStart=>exact ⟨0,slC x,rfl,zle _,hb1,hid (by simpa using HO1.out),hid (fun i hi=>by
  have h:mgS na x 0 y i=x i:=by unfold mgS;rw [if_pos (by omega),if_neg (nlz _)]
  rw [h];exact EZ x i)⟩
 case round=>
  obtain ⟨k,c,rfl,hk,b0,ho,hat⟩:=hrel
  have zr:=b0.size
  obtain ⟨ad,cap,rfl⟩:=own_len ho.out
  by_cases hgo:k<nb
  ·have i1:(k:Int)<nb:=by omega
   have YC:=slc_of (HY.out.below b0 hhi) hgo
   have y0:=YC.c0
   have y1:=YC.c1
   clear YC
   by_cases h1:na≤k
   ·have hm:max na k=k:=by omega
    rw [hm] at ho hat ⊢
    have HOA:=hid (ho.out.alloc (.cells #[.int .i64 (y k).bal,.string (y k).text] 109))
    have HAT:=hid hat.out
    clear ho hat
    go_wp2_with ((with_reducible show wpList _ _ _ (⟨some 25,_,_,_,_,_⟩::_) _ _);go_must (refine wpList_append_own_at _ rfl _ _ 32 rfl w.1.size 109 i0 _ 2 24 Tryz.underlying32 hi0 hz0 hz1 hz2 rfl (by decide) _ k (Zg (k*2) c) rfl HOA.out ⟨wr.1.size,0,none⟩ 1 1 [.int .i64 (y k).bal,.string (y k).text] rfl rfl (Ut wr [.int .i64 (y k).bal,.string (y k).text] 109) (fun u hu=>by simp at hu;rcases hu with rfl|rfl<;>rfl) (by unfold maxLen;omega) (by omega) (by simp;omega) ?_;intro v7 w7 hown7 hgrow7 hnil7 hat7;have HO7:=hid hown7;have HG7:=hid hgrow7;clear hown7 hgrow7 hnil7 hat7))
    have hmk:max na (k+1)=k+1:=by omega
    refine ⟨⟨k+1,IM c (k*2) [.int .i64 (y k).bal,.string (y k).text],by go_num,hgo,?_,hid ?_,hid ?_⟩,by show nb-((k:Int)+1).toNat<nb-(k:Int).toNat;omega⟩
    ·exact (b0.trans (Zb wr _ |>.mono zr)).grown HG7.out (ltr zr (Zb wr _).size) (fun q hq=>(HOA.out.lt q hq).1)
    ·rw [hmk,show (k+1)*2=k*2 + [Value.int .i64 (y k).bal,.string (y k).text].length from Nat.add_mul k 1 2,←Xg]
     exact HO7.out
    ·rw [hmk]
     intro i hi'
     by_cases h:i=k
     ·subst h
      rw [show mgS na x (i+1) y i=y i by unfold mgS;rw [if_neg (by omega)]]
      exact ⟨KB c (i*2) _,Xq c (i*2) _ 1⟩
     ·rw [Kv h]
      obtain ⟨a0,a1⟩:=HAT.out i (by omega)
      exact ⟨(if_pos (by omega)).trans a0,(if_pos (by omega)).trans a1⟩
   ·have hm:max na k=na:=by omega
    rw [hm] at ho hat ⊢
    obtain ⟨g,rfl⟩:=Fj ho.out (by omega)
    have i2:(k:Int)<na:=by omega
    have i3:¬((k:Int)=na):=by omega
    have RO:=JJ ho.out
    obtain ⟨a0,a1⟩:=hat.out k (by omega)
    have hmg:mgS na x k y k=x k:=by unfold mgS;rw [if_pos (by omega),if_neg (Nat.lt_irrefl _)]
    rw [hmg] at a0 a1
    have r0:=RO.cell (k*2) (by omega)
    rw [a0] at r0
    have r1:=RO.cell (k*2+1) (by omega)
    rw [a1] at r1
    have f0:=RO.free (k*2)
    have f1:=RO.free (k*2+1)
    have HO:=hid ho.out
    have HAT:=hid hat.out
    clear a0 a1 RO ho hat hmg
    by_cases h2:(x k).bal<(y k).bal
    ·go_wp2
     go_quiet (fail)
     go_wp2
     have hmk:max na (k+1)=na:=by omega
     have HD:(wr.drewN nq).ownsRow w.1.size 109 2 (.slice (some ⟨g,0,none⟩) na cap) na (Zg (na*2) c):=HO.out
     have bd:Below w.1.size w (wr.drewN nq):=b0.trans ⟨rfl,rfl,rfl,lrf _,fun _ _=>rfl⟩
     have hg:=(HO.out.lt g rfl).1
     obtain ⟨s1,g1⟩:=HD.stored (k*2) (.int .i64 (y k).bal)
     obtain ⟨s2,g2⟩:=s1.stored (k*2+1) (.string (y k).text)
     rw [JV,JV] at s2
     refine ⟨⟨k+1,setF (setF c (k*2) (.int .i64 (y k).bal)) (k*2+1) (.string (y k).text),by go_num,hgo,?_,hid (by rw [hmk];exact s2),hid ?_⟩,by show nb-((k:Int)+1).toNat<nb-(k:Int).toNat;omega⟩
     ·exact (bd.grown g1 bd.size (fun q hq=>by simp at hq;omega)).grown g2 (ltr bd.size g1.size) (fun q hq=>by simp at hq;omega)
     ·rw [hmk]
      intro i hi'
      by_cases h:i=k
      ·subst h
       rw [show mgS na x (i+1) y i=y i by unfold mgS;rw [if_pos (by omega),if_pos (by omega),if_pos h2]]
       exact ⟨(if_neg (by omega)).trans (if_pos rfl),if_pos rfl⟩
      ·rw [Kv h]
       exact Yy (Yy (HAT.out i hi') h (by omega) (by omega) _) h (by omega) (by omega) _
    ·go_wp2
     go_quiet (fail)
     go_wp2
     have hmk:max na (k+1)=na:=by omega
     refine ⟨⟨k+1,c,by go_num,hgo,b0.trans ⟨rfl,rfl,rfl,lrf _,fun _ _=>rfl⟩,hid (by rw [hmk];exact HO.out),hid ?_⟩,by show nb-((k:Int)+1).toNat<nb-(k:Int).toNat;omega⟩
     rw [hmk]
     intro i hi'
     have e:mgS na x (k+1) y i=mgS na x k y i:=by
      by_cases h:i=k
      ·subst h
       unfold mgS
       rw [if_pos (by omega),if_pos (by omega),if_neg (by omega),if_pos (by omega),if_neg (Nat.lt_irrefl _)]
      ·exact Kv h
     rw [e]
     exact HAT.out i hi'
  ·have i1:¬(k:Int)<nb:=by omega
   obtain rfl:k=nb:=by omega
   have HO:=hid ho.out
   have HAT:=hid hat.out
   clear ho hat
   go_wp2
   refine bodyPost_ret (v:=.slice ad (max na k) cap) (by simp [results,Tryz.results84,go_sem]) rfl ?_
   obtain ⟨ad',cap',g,e1,e2,e3,e4,e5⟩:=Nq HO.out HAT.out b0
   exact ⟨ad',⟨cap',e1⟩,g,e2,e3,fun h=>e4 (by omega),e5⟩
theorem YQ {P:Program} {ops:Array Oper} {Q:Exit→Act→World→Prop} {i:Nat} {K:Act→World→Prop} {a:Act} {w:World} {op:Oper} (hop:ops[i]? = some op) (hgd:op.guard=none) (ty:TypeId) (x y:Operand) (ho:op.op=.store ty x y)
  (b:Nat) (cs:List Value) (hx:a.eval x=.pointer (some ⟨b,0,none⟩)) (hy:a.eval y=.agg cs.toArray) {c:Array Value}
  (hb:Bx w b c) (hsz:c.size=cs.length) (hi:(P.info? ty).map (·.size)=some cs.length) (h1:∀ v ∈ cs,v.oneCell'=true)
  (h:∀ W2:World,Bx W2 b cs.toArray→Fr b (b+1) w W2→W2.1.size=w.1.size→K (a.put op.dst undef) W2):wpOp P ops Q i K a w:=by
 have ht:w.there b 0 cs.length:=hsz▸hb.there
 refine Zi hop hgd (wp_store_mid ty x y ho b 0 cs.toArray hx hy (by simpa using ht) (by simpa using hi) (all_oneCell_toArray h1) (h _ ⟨fun i=>?_,fun i=>?_,?_⟩ (Zx _ _ _ _) (ZB _ _ _ _)))
 ·rcases Nat.lt_or_ge i cs.length with hl|hl
  ·have:=World.rangeAt_setCells_same w b 0 cs ht i cs[i] (List.getElem?_eq_getElem hl)
   rw [Nat.zero_add] at this
   rw [List.getElem?_toArray,List.getElem?_eq_getElem hl]
   exact this
  ·rw [World.cell?_setCells_out b cs 0 w ⟨b,i,none⟩ (fun _ _=>Or.inr (by show 0+cs.length≤i;omega)),hb.cell i,Array.getElem?_eq_none (by omega),List.getElem?_toArray,List.getElem?_eq_none (by omega)]
 ·rw [World.frozen?_setCells];exact hb.free i
 ·rw [ZB];exact hb.lt
def SpR (w0:World) (r0:Rc) (p0:RcP) (r':Rc) (e:Ending) (w':World):Prop:=
 ∃ p',e=.returned (rcV r' p'.A)∧RcG w' r' p'∧FrP (rbs p0 r0) w0 w'∧(∀ q,rbs p' r' q→rbs p0 r0 q∨w0.1.size≤q)
structure SpF (w0:World) (L:Nat) (r0:Rc) (p0:RcP) (W:World) (r:Rc) (p:RcP):Prop where
 g:RcG W r p
 bl:∀ q,rbs p r q→rbs p0 r0 q∨L≤q
 lo:∀ q,rbs p0 r0 q→q<w0.1.size
 fr:FrP (fun q=>rbs p0 r0 q∨w0.1.size≤q) w0 W
 hl:w0.1.size≤L∧L≤W.1.size
section
variable {w0:World} {L:Nat} {r0:Rc} {p0:RcP} {W:World} {r:Rc} {p:RcP}
theorem SpF.ne (h:SpF w0 L r0 p0 W r p) {b:Nat} (h1:w0.1.size≤b) (h2:b<L):¬rbs p r b:=fun e=>by
 rcases h.bl b e with e|e
 ·have:=h.lo b e;omega
 ·omega
theorem SpF.keep (h:SpF w0 L r0 p0 W r p) {w1:World} (hf:FrP (rbs p r) W w1) {b:Nat} {c:Array Value} (hb:Bx W b c) (h1:w0.1.size≤b) (h2:b<L):Bx w1 b c:=hb.frP hf (h.ne h1 h2)
theorem SpF.next2 (h:SpF w0 L r0 p0 W r p) {w1:World} {r1:Rc} {p1:RcP} (hg:RcG w1 r1 p1) (hf:FrP (fun q=>rbs p r q∨w0.1.size≤q) W w1) (hr:∀ q,rbs p1 r1 q→rbs p r q∨W.1.size≤q):SpF w0 L r0 p0 w1 r1 p1:=by
 have h1:=h.hl.1
 have h2:=h.hl.2
 refine ⟨hg,fun q hq=>?_,h.lo,h.fr.trans2 hf (fun q hq e=>?_),h1,ltr h2 hf.size⟩
 ·rcases hr q hq with e|e
  ·exact h.bl q e
  ·exact Or.inr (by omega)
 ·rcases e with e|e
  ·rcases h.bl q e with e|e
   ·exact Or.inl e
   ·exact Or.inr (by omega)
  ·exact Or.inr e
theorem SpF.next (h:SpF w0 L r0 p0 W r p) {w1:World} {r1:Rc} {p1:RcP} (hg:RcG w1 r1 p1) (hf:FrP (rbs p r) W w1) (hr:∀ q,rbs p1 r1 q→rbs p r q∨W.1.size≤q):SpF w0 L r0 p0 w1 r1 p1:=h.next2 hg (hf.mono (fun _ hq=>Or.inl hq)) hr
theorem SpF.box (h:SpF w0 L r0 p0 W r p) {V:World} {b:Nat} (hf:FrP (fun q=>q=b) W V) (h1:w0.1.size≤b) (h2:b<L):SpF w0 L r0 p0 V r p:=
 ⟨h.g.fr hf (fun q hq e=>by subst e;exact h.ne h1 h2 hq),h.bl,h.lo,h.fr.trans2 hf (fun q hq e=>Or.inr (by omega)),h.hl.1,ltr h.hl.2 hf.size⟩
theorem SpF.grow (h:SpF w0 L r0 p0 W r p) {V:World} (hb:Below W.1.size W V):SpF w0 L r0 p0 V r p:=
 ⟨h.g.grow hb,h.bl,h.lo,h.fr.trans2 (FrP.of_below (P:=fun _=>False) hb) (fun _ _ e=>e.elim),h.hl.1,ltr h.hl.2 hb.size⟩
theorem SpF.re (h:SpF w0 L r0 p0 W r p) {r1:Rc} {p1:RcP} (hg:RcG W r1 p1) (hr:∀ q,rbs p1 r1 q→rbs p r q):SpF w0 L r0 p0 W r1 p1:=h.next hg (FrP.refl _ _) (fun q hq=>Or.inl (hr q hq))
theorem SpF.done (h:SpF w0 L r0 p0 W r p):SpR w0 r0 p0 r (.returned (rcV r p.A)) W:=⟨p,rfl,h.g,h.fr.low,fun q hq=>by
 have:=h.hl.1
 rcases h.bl q hq with e|e
 ·exact Or.inl e
 ·exact Or.inr (by omega)⟩
theorem SpF.new (hg:RcG w0 r0 p0) (hb:Below w0.1.size w0 W) (h1:w0.1.size≤L) (h2:L≤W.1.size):SpF w0 L r0 p0 W r0 p0:=⟨hg.grow hb,fun _ hq=>Or.inl hq,hg.at_.lt,FrP.of_below hb,h1,h2⟩
end
theorem E5 (r:Rc) (p:RcP) (k:Nat) (x:Sl) (hk:k<1000) (w:World) (hg:RcG w r p):Calls Tryz.prog 85 #[rcV r p.A,.int .i64 ((k:Int)+1),slV x] w (SpR w r p (JA r k x)):=
 (Og r p k x w hg hk).mono fun e w' ⟨p',he,h1,h2,h3⟩=>⟨p',he,h1,h2.mono (fun q hq=>⟨1,by omega,hq.1,hq.2⟩),h3⟩
theorem KX (r:Rc) (p:RcP) (w:World) (hg:RcG w r p):Calls Tryz.prog 38 #[rcV r p.A] w (SpR w r p (ZD r)):=
 (Xn r p.A w).mono fun _e _w' ⟨ya,ba,aa,he,hb⟩=>⟨Yo p ya ba aa 0 0 0,he,(hg.grow hb).calm ya ba aa 0 0 0,FrP.of_below hb,fun _q hq=>Or.inl (Xv (r:=r) hq)⟩
def Eu (_S g iq bn cap:Nat) (bl:Int) (tx:ByteArray) (r:Rc) (p:RcP) (_r1:Rc) (_W:World) (i:Nat) (v:Value) (_X:World):Prop:=
 match i with
 | 0=>v=.agg (rcC r p.A)
 | 1=>v=.int .i64 (iq:Int)
 | 2=>v=.int .i64 ((iq:Int)+1)
 | 3=>v=.int .i64 bl
 | 4=>v=.slice (some ⟨g,0,none⟩) bn cap
 | 5=>v=.int .i64 (iq:Int)
 | 6=>v=.pointer (some ⟨g,iq*2,none⟩)
 | 7=>v=.pointer (some ⟨g,iq*2+1,none⟩)
 | 8=>v=.string tx
 | 9=>v=.agg #[.int .i64 bl,.string tx]
 | _=>True
theorem apHy0 {P:Prop} (h:P:=by
  exact Zi rfl rfl (wp_load_mid 38 _ rfl S 0 rfl (rcC r p.A).toList _ (Holds.range (cs:=(rcC r p.A).toList) (hS.below hb hS.lt).cell) Tryz.underlying38 rfl Tryz.sz38 (hK (.agg (rcC r p.A)) X rfl (br _ _)))):P:=h
theorem apHy1 {P:Prop} (h:P:=by
  rintro a X K ⟨t,p',rfl,hr⟩ hK
  obtain ⟨c,hc,hz⟩:=hT p' X hr
  exact YQ rfl rfl 38 _ _ rfl S (rcC r1 p'.A).toList rfl rfl hc hz Tryz.sz38 (by simp [Value.oneCell']) (fun V hv hf hs=>hK _ V ⟨t,_,rfl,p',X,hr,hv,hf,hs⟩)):P:=h
set_option maxRecDepth 100000 in
theorem Fs (p0 p1 p2 p4 p5 p6 ze zc za zd zi zj zg zh zn zm zo zp zq yb yf ye z9 yd z8 z0 zu zy zt yg yi yj yh yk ym yo yr yt xo jo jm jp yp yq:Value) (w0 w1 w2 w3 w4 w5 w6 w7 w8 w9:Value) (S g iq bn cap:Nat) (bl:Int) (tx:ByteArray) (r:Rc) (p:RcP) (r1:Rc) (W:World) (R:RcP→World→Prop) (hS:Bx W S (rcC r p.A)) (hgl:g<W.1.size) (hi:iq<bn) (hbn:bn≤1000) (cg:W.cell? ⟨g,iq*2+1,none⟩=some (.string tx)) (hQc:∀ X,Below W.1.size W X→Calls Tryz.prog 85 #[rcV r p.A,.int .i64 ((iq:Int)+1),.agg #[.int .i64 bl,.string tx]] X fun e w'=>∃ p',e=.returned (rcV r1 p'.A)∧R p' w') (hT:∀ p' Y,R p' Y→∃ c:Array Value,Bx Y S c∧c.size=18) (Q:Exit→Act→World→Prop) (hQ:∀ (t:Nat→Value) (v3:Value) X,(∃ p' Y,R p' Y∧Bx X S (rcC r1 p'.A)∧Fr S (S+1) Y X∧X.1.size=Y.1.size)→Q .normal ⟨#[p0,p1,p2,.pointer (some ⟨S,0,none⟩),p4,p5,p6,.int .i64 bl,.slice (some ⟨g,0,none⟩) bn cap,.int .i64 (iq:Int),ze,zc,za,zd,zi,zj,zg,zh,zn,zm,zo,zp,zq,yb,yf,ye,z9,yd,z8,z0,zu,zy,zt,yg,yi,yj,yh,yk,ym,yo,yr,yt,xo,jo,jm,jp,t 0,t 1,t 2,t 3,t 4,t 5,t 6,t 7,t 8,t 9,v3,yq],[]⟩ X) :
  Code.wp Tryz.prog (Code.region 13 #[⟨some 46,.load 38 (.tmp 3),38,GG,#[],none⟩,⟨some 47,.move (.tmp 9),3,GG,#[],none⟩,⟨some 48,.binOp .add 3 (.tmp 47) (.const (.int .i64 1)) 3,3,GG,#[⟨1,.data⟩],none⟩,⟨some 49,.move (.tmp 7),3,GG,#[],none⟩,⟨some 50,.move (.tmp 8),32,GG,#[],none⟩,⟨some 51,.move (.tmp 9),3,GG,#[],none⟩,⟨some 52,.indexAddr 32 (.tmp 50) (.tmp 51),0,GG,#[⟨4,.data⟩,⟨5,.data⟩],none⟩,⟨some 53,.fieldAddr 109 (.tmp 52) 1,0,GG,#[⟨6,.data⟩],none⟩,⟨some 54,.load 9 (.tmp 53),9,GG,#[⟨7,.data⟩],none⟩,⟨some 55,.build 109 #[(0,.tmp 49),(1,.tmp 54)],109,GG,#[⟨3,.data⟩,⟨8,.data⟩],none⟩,⟨some 56,.call ⟨.value (.func 85),#[.tmp 46,.tmp 48,.tmp 55],#[38,3,109]⟩,38,GG,#[⟨0,.data⟩,⟨2,.data⟩,⟨9,.data⟩],none⟩,⟨none,.store 38 (.tmp 3) (.tmp 56),0,GG,#[⟨10,.data⟩,⟨10,.chain⟩,⟨0,.phase⟩,⟨1,.phase⟩,⟨2,.phase⟩,⟨3,.phase⟩,⟨4,.phase⟩,⟨5,.phase⟩,⟨6,.phase⟩,⟨7,.phase⟩,⟨8,.phase⟩,⟨9,.phase⟩,⟨10,.phase⟩],none⟩] true) Q ⟨#[p0,p1,p2,.pointer (some ⟨S,0,none⟩),p4,p5,p6,.int .i64 bl,.slice (some ⟨g,0,none⟩) bn cap,.int .i64 (iq:Int),ze,zc,za,zd,zi,zj,zg,zh,zn,zm,zo,zp,zq,yb,yf,ye,z9,yd,z8,z0,zu,zy,zt,yg,yi,yj,yh,yk,ym,yo,yr,yt,xo,jo,jm,jp,w0,w1,w2,w3,w4,w5,w6,w7,w8,w9,yp,yq],[]⟩ W:=by
 refine JY (by kernel_rfl) 10 (fun t:Nat→Value=>#[p0,p1,p2,.pointer (some ⟨S,0,none⟩),p4,p5,p6,.int .i64 bl,.slice (some ⟨g,0,none⟩) bn cap,.int .i64 (iq:Int),ze,zc,za,zd,zi,zj,zg,zh,zn,zm,zo,zp,zq,yb,yf,ye,z9,yd,z8,z0,zu,zy,zt,yg,yi,yj,yh,yk,ym,yo,yr,yt,xo,jo,jm,jp,t 0,t 1,t 2,t 3,t 4,t 5,t 6,t 7,t 8,t 9,yp,yq]) (fun i=>match i with|0=>w0|1=>w1|2=>w2|3=>w3|4=>w4|5=>w5|6=>w6|7=>w7|8=>w8|_=>w9) (Eu S g iq bn cap bl tx r p r1 W) (fun a X=>∃ (t:Nat→Value) (p':RcP),a=⟨#[p0,p1,p2,.pointer (some ⟨S,0,none⟩),p4,p5,p6,.int .i64 bl,.slice (some ⟨g,0,none⟩) bn cap,.int .i64 (iq:Int),ze,zc,za,zd,zi,zj,zg,zh,zn,zm,zo,zp,zq,yb,yf,ye,z9,yd,z8,z0,zu,zy,zt,yg,yi,yj,yh,yk,ym,yo,yr,yt,xo,jo,jm,jp,t 0,t 1,t 2,t 3,t 4,t 5,t 6,t 7,t 8,t 9,rcV r1 p'.A,yq],[]⟩∧R p' X) (fun a X=>∃ (t:Nat→Value) (v3:Value),a=⟨#[p0,p1,p2,.pointer (some ⟨S,0,none⟩),p4,p5,p6,.int .i64 bl,.slice (some ⟨g,0,none⟩) bn cap,.int .i64 (iq:Int),ze,zc,za,zd,zi,zj,zg,zh,zn,zm,zo,zp,zq,yb,yf,ye,z9,yd,z8,z0,zu,zy,zt,yg,yi,yj,yh,yk,ym,yo,yr,yt,xo,jo,jm,jp,t 0,t 1,t 2,t 3,t 4,t 5,t 6,t 7,t 8,t 9,v3,yq],[]⟩∧(∃ p' Y,R p' Y∧Bx X S (rcC r1 p'.A)∧Fr S (S+1) Y X∧X.1.size=Y.1.size)) (by kernel_rfl) (by kernel_rfl) (by kernel_rfl) (by kernel_rfl) ?_ rfl ?_ ?_ ?_ ?_
 ·exact fun _ _ _ _ _ h _=>h
 ·intro i hi t X K hb hg hK
  rcases (show i=0∨i=1∨i=2∨i=3∨i=4∨i=5∨i=6∨i=7∨i=8∨i=9 by omega) with rfl|rfl|rfl|rfl|rfl|rfl|rfl|rfl|rfl|rfl
  ·exact apHy0
  ·exact sg
  ·have e1:t 1=.int .i64 (iq:Int):=hg 1 (Wt rfl)
   have e1:t 1=.int .i64 (iq:Int):=hg 1 (Wt rfl)
   have h:=hK _ X rfl (br _ _)
   refine Zi rfl rfl ?_
   clear hK hg
   have hw:IntKind.i64.wrap ((iq:Int)+1)=(iq:Int)+1:=by rw [IntKind.wrap_i64];omega
   simp only [e1]
   go_simp
   simpa [updT,e1,hw] using h
  ·exact sg
  ·exact sg
  ·exact sg
  ·have ea:t 4=.slice (some ⟨g,0,none⟩) bn cap:=hg 4 (Wt rfl)
   have eb:t 5=.int .i64 (iq:Int):=hg 5 (Wt rfl)
   have hi2:=hi
   exact sg
  ·have ea:t 6=.pointer (some ⟨g,iq*2,none⟩):=hg 6 (Wt rfl)
   exact sg
  ·have ea:t 7=.pointer (some ⟨g,iq*2+1,none⟩):=hg 7 (Wt rfl)
   have f1:=(hb.cell (p:=⟨g,iq*2+1,none⟩) hgl).trans cg
   exact sg
  ·have ea:t 3=.int .i64 bl:=hg 3 (Wt rfl)
   have eb:t 8=.string tx:=hg 8 (Wt rfl)
   exact sg
 ·intro t X K hb hg hK
  have e0:t 0=.agg (rcC r p.A):=hg 0 (by omega)
  have e2:t 2=.int .i64 ((iq:Int)+1):=hg 2 (by omega)
  have e9:t 9=.agg #[.int .i64 bl,.string tx]:=hg 9 (by omega)
  refine Zi rfl rfl ?_
  have HK:=hid hK
  have HC:=hid (hQc X hb)
  clear hK hg hQc hQ hT
  simp only [e0,e2,e9]
  go_simp
  go_at_call 85
  refine HC.out.mono ?_
  rintro e Y ⟨p',rfl,hr⟩
  have h:=HK.out _ Y ⟨t,p',rfl,hr⟩
  simpa [e0,e2,e9] using h
 ·exact apHy1
 ·rintro a X ⟨t,v3,rfl,hp⟩
  exact hQ t v3 X hp
theorem Tryz.c9:Tryz.prog.cellsOf 9=1:=by kernel_rfl
theorem Tryz.c3:Tryz.prog.cellsOf 3=1:=by kernel_rfl
theorem Tryz.c97:Tryz.prog.cellsOf 97=2:=by kernel_rfl
theorem Tryz.c24:Tryz.prog.cellsOf 24=3:=by kernel_rfl
theorem Tryz.c48:Tryz.prog.cellsOf 48=8:=by kernel_rfl
theorem Tryz.c100:Tryz.prog.cellsOf 100=2:=by kernel_rfl
theorem Tryz.c30:Tryz.prog.cellsOf 30=18:=by kernel_rfl
theorem Tryz.b9:Tryz.prog.bytesOf 9=16:=by kernel_rfl
theorem Tryz.b3:Tryz.prog.bytesOf 3=8:=by kernel_rfl
theorem Tryz.b97:Tryz.prog.bytesOf 97=24:=by kernel_rfl
theorem Tryz.b48:Tryz.prog.bytesOf 48=88:=by kernel_rfl
theorem Tryz.b100:Tryz.prog.bytesOf 100=32:=by kernel_rfl
def Ub {H:Type} (t:TypeId) (d:DataW H):Prop:=∀ x ∈ DataW.weights Tryz.prog t d,x≤reachBytes
theorem Jk {H:Type} {P:Program} {e:TypeId} : ∀ {l:List (DataW H)} {d:DataW H},d ∈ l→∀ x ∈ DataW.weights P e d,x ∈ DataW.weightsAll P e l
 | d0::r,d,h,x,hx=>by
  rw [DataW.weightsAll]
  rcases List.mem_cons.1 h with rfl|h
  ·exact List.mem_append_left _ hx
  ·exact List.mem_append_right _ (Jk h x hx)
set_option maxRecDepth 100000 in
theorem JO {H:Type} {t e:TypeId} {es sp:List (DataW H)} (hu:Tryz.prog.underlying t=some (.slice e)) (h:Ub t (.slice es sp)):(es.length+sp.length)*Tryz.prog.bytesOf e≤reachBytes∧∀ d ∈ es,Ub e d:=by
 refine ⟨h _ (by simp [DataW.weights,hu]),fun d hd x hx=>h x ?_⟩
 simp only [DataW.weights,hu]
 exact List.mem_cons_of_mem _ (List.mem_append_left _ (Jk hd x hx))
set_option maxRecDepth 100000 in
theorem KL {H:Type} {t:TypeId} {b:List UInt8} (h:Ub (H:=H) t (.lit (.string b))):b.length≤reachBytes:=h _ (by simp [DataW.weights])
theorem IJ {W:World} {a:Addr} {v:Value} (h:W.cell? a=some v):a.block<W.1.size:=by
 unfold World.cell? at h
 rcases Nat.lt_or_ge a.block W.1.size with h1|h1
 ·exact h1
 ·rw [Array.getElem?_eq_none h1] at h
  cases h
set_option maxRecDepth 100000 in
theorem Fm {H:Type} {enc:TypeId × Value→H} {W:World} {fuel:Nat} {v:Value} {x:DataW H × List MemPlace} (h:DataW.trod enc Tryz.prog W 0 (fun _=>true) true fuel 26 [v]=some x) (hs:Ub 26 x.1) :
  ∃ ad n cap s,v=.slice ad n cap∧StrsIn W 0 W.1.size ad n s∧(n:Int)≤8796093022208∧∀ i,i<n→((s i).size:Int)≤140737488355328:=by
 rcases open_strs Tryz.underlying26 Tryz.underlying9 Tryz.c9 h with ⟨hc,_⟩|⟨a,len,cap,m,s,hc,_,hl,_,hm,hx,hcell⟩
 ·simp only [List.cons.injEq,and_true] at hc
  exact ⟨none,0,0,fun _=>⟨#[]⟩,hc,fun i hi=>absurd hi (nlz _),by omega,fun i hi=>absurd hi (nlz _)⟩
 ·simp only [List.cons.injEq,and_true] at hc
  simp only [if_true] at hm
  subst hm
  subst hx
  obtain ⟨f1,f2⟩:=JO Tryz.underlying26 hs
  simp only [List.length_map,List.length_range,Tryz.b9,reachBytes] at f1
  refine ⟨some a,len,m,s,hc,fun i hi=>?_,by omega,fun i hi=>?_⟩
  ·obtain ⟨b,off,spot⟩:=a
   have hspot:spot=none:=by simpa [Addr.add] using World.cell?_spot (hcell 0 (by omega)).1
   subst hspot
   have hci:=(hcell i (by omega)).1
   have ea:((⟨b,off,none⟩:Addr).add i)=⟨b,off+i,none⟩:=by simp [Addr.add]
   rw [ea] at hci
   exact ⟨b,off,rfl,zle _,IJ hci,hci⟩
  ·have:=KL (f2 _ (List.mem_map.2 ⟨i,List.mem_range.2 hi,rfl⟩))
   have e:(s i).data.toList.length=(s i).size:=rfl
   simp only [reachBytes] at this
   omega
theorem PJ {α:Type} {l:List α} (h:l.length=2):∃ a b,l=[a,b]:=by
 match l,h with
 | [a,b],_=>exact ⟨a,b,rfl⟩
theorem list3 {α:Type} {l:List α} (h:l.length=3):∃ a b c,l=[a,b,c]:=by
 match l,h with
 | [a,b,c],_=>exact ⟨a,b,c,rfl⟩
theorem list8 {α:Type} {l:List α} (h:l.length=8):∃ a b c d e f g h,l=[a,b,c,d,e,f,g,h]:=by
 match l,h with
 | [a,b,c,d,e,f,g,h],_=>exact ⟨a,b,c,d,e,f,g,h,rfl⟩
set_option maxRecDepth 100000 in
theorem PM {H:Type} {enc:TypeId × Value→H} {W:World} {n:Nat} {v:Value} {y:DataW H × List MemPlace} (h:DataW.trod enc Tryz.prog W 0 (fun _=>true) true n 9 [v]=some y) (hs:Ub 9 y.1):∃ s:ByteArray,v=.string s∧(s.size:Int)≤140737488355328:=by
 obtain ⟨s,h1,h2,_⟩:=DataW.trod_string Tryz.underlying9 h
 subst h2
 have:=KL hs
 have e:s.data.toList.length=s.size:=rfl
 simp only [reachBytes] at this
 exact ⟨s,by simpa using h1,by omega⟩
set_option maxRecDepth 100000 in
theorem Ys {H:Type} {enc:TypeId × Value→H} {W:World} {n:Nat} {v:Value} {y:DataW H × List MemPlace} (h:DataW.trod enc Tryz.prog W 0 (fun _=>true) true n 3 [v]=some y):∃ a:Int,v=.int .i64 a:=by
 obtain ⟨a,h1,_⟩:=DataW.trod_int Tryz.underlying3 h
 exact ⟨a,by simpa using h1⟩
set_option maxRecDepth 100000 in
theorem Uq {H:Type} {enc:TypeId × Value→H} {W:World} {n:Nat} {v:Value} {y:DataW H × List MemPlace} (h:DataW.trod enc Tryz.prog W 0 (fun _=>true) true n 4 [v]=some y):∃ a:Bool,v=.bool a:=by
 obtain ⟨a,h1,_⟩:=DataW.trod_bool Tryz.underlying4 h
 exact ⟨a,by simpa using h1⟩
theorem skol {β:Type} {n:Nat} (d:β) {p:Nat→β→Prop} (h:∀ i,i<n→∃ x,p i x):∃ f:Nat→β,∀ i,i<n→p i (f i):=by
 have h':∀ i,∃ x,i<n→p i x:=fun i=>by
  by_cases hi:i<n
  ·obtain ⟨x,hx⟩:=h i hi;exact ⟨x,fun _=>hx⟩
  ·exact ⟨d,fun e=>absurd e hi⟩
 obtain ⟨f,hf⟩:=Classical.skolem.1 h'
 exact ⟨f,hf⟩
set_option maxRecDepth 100000 in
theorem Pj {H:Type} {enc:TypeId × Value→H} {W:World} {fuel:Nat} {v:Value} {x:DataW H × List MemPlace} {t e:TypeId} {z:Nat} (ht:Tryz.prog.underlying t=some (.slice e)) (hz:Tryz.prog.cellsOf e=z) (hz0:0<z) (h:DataW.trod enc Tryz.prog W 0 (fun _=>true) true fuel t [v]=some x) (hs:Ub t x.1) (hb:16≤Tryz.prog.bytesOf e) :
  ∃ ad n cap,v=.slice ad n cap∧(n:Int)≤8796093022208∧∀ i,i<n→∃ (b off:Nat) (cs:List Value) (k:Nat) (y:DataW H × List MemPlace),ad=some ⟨b,off,none⟩∧b<W.1.size∧(∀ j,j<z→W.cell? ⟨b,off+i*z+j,none⟩=cs[j]?)∧DataW.trod enc Tryz.prog W 0 (fun _=>true) true k e cs=some y∧Ub e y.1:=by
 rcases open_slice ht h with ⟨hc,_⟩|⟨a,len,cap,m,n,D,Pl,hc,_,hl,_,hm,hx,hel⟩
 ·simp only [List.cons.injEq,and_true] at hc
  exact ⟨none,0,0,hc,by omega,fun i hi=>absurd hi (nlz _)⟩
 ·simp only [List.cons.injEq,and_true] at hc
  simp only [if_true] at hm
  subst hm
  subst hx
  obtain ⟨f1,f2⟩:=JO ht hs
  simp only [List.length_map,List.length_range,reachBytes] at f1
  have f3:(len+(m-len))*16≤140737488351232:=ltr (Nat.mul_le_mul_left _ hb) f1
  refine ⟨some a,len,m,hc,by omega,fun i hi=>?_⟩
  obtain ⟨cs,h1,h2⟩:=hel i (by omega)
  rw [hz] at h1
  obtain ⟨_,hcl,hcc⟩:=World.cells?_some h1
  obtain ⟨cs0,h10,_⟩:=hel 0 (by omega)
  rw [hz] at h10
  obtain ⟨_,hcl0,hcc0⟩:=World.cells?_some h10
  obtain ⟨b,off,spot⟩:=a
  have hspot:spot=none:=by
   have:=hcc0 0 hz0
   rw [List.getElem?_eq_getElem (by omega)] at this
   simpa [Addr.add] using World.cell?_spot this
  subst hspot
  have ea:∀ j,(((⟨b,off,none⟩:Addr).add (i*z)).add j)=⟨b,off+i*z+j,none⟩:=fun j=>by simp [add_plain]
  have hb':b<W.1.size:=by
   have:=hcc 0 hz0
   rw [ea,List.getElem?_eq_getElem (by omega)] at this
   exact IJ this
  exact ⟨b,off,cs,n,_,rfl,hb',fun j hj=>by rw [←ea];exact hcc j hj,h2,f2 _ (List.mem_map.2 ⟨i,List.mem_range.2 hi,rfl⟩)⟩
set_option maxRecDepth 100000 in
theorem Fo {H:Type} {enc:TypeId × Value→H} {W:World} {fuel:Nat} {cs:List Value} {x:DataW H × List MemPlace} (h:DataW.trod enc Tryz.prog W 0 (fun _=>true) true fuel 97 cs=some x) (hs:Ub 97 x.1) :
  ∃ o:Sl,cs=[.int .i64 o.bal,.string o.text]∧Ju o:=by
 obtain ⟨xs,n,_,rfl,hlen,hxl,hf⟩:=DataW.trod_struct Tryz.underlying97 h
 rw [Tryz.c97] at hlen
 obtain ⟨c0,c1,rfl⟩:=PJ hlen
 obtain ⟨y0,y1,rfl⟩:=PJ (show xs.length=2 from hxl)
 have g0:=hf 0 _ rfl
 have g1:=hf 1 _ rfl
 simp only [List.getElem?_cons_succ,List.getElem?_cons_zero] at g0 g1
 have hs':∀ z,z ∈ DataW.weights Tryz.prog 9 y1.1→z≤reachBytes:=fun z hz=>hs z (by
  simp only [List.map_cons,List.map_nil,DataW.weights,Tryz.underlying97,DataW.weightsEach,List.mem_append]
  simp [hz])
 obtain ⟨b,rfl⟩:=Ys g0
 obtain ⟨t,rfl,ft⟩:=PM g1 (fun z hz=>hs' z hz)
 exact ⟨⟨b,t⟩,rfl,⟨ft⟩⟩
set_option maxRecDepth 100000 in
theorem Ku {H:Type} {enc:TypeId × Value→H} {W:World} {fuel:Nat} {v:Value} {x:DataW H × List MemPlace} (h:DataW.trod enc Tryz.prog W 0 (fun _=>true) true fuel 22 [v]=some x) (hs:Ub 22 x.1) :
  ∃ ad n cap xs,v=.slice ad n cap∧(n:Int)≤8796093022208∧SlsIn W 0 W.1.size ad n xs∧∀ i,i<n→Ju (xs i):=by
 obtain ⟨ad,n,cap,rfl,hn,hel⟩:=Pj Tryz.underlying22 Tryz.c97 (by omega) h hs (by rw [Tryz.b97];omega)
 obtain ⟨xs,hxs⟩:=skol (⟨0,⟨#[]⟩⟩:Sl) (p:=fun i o=>(∃ b off,ad=some ⟨b,off,none⟩∧0≤b∧b<W.1.size∧SlCells W b (off+i*2) o)∧Ju o) (fun i hi=>by
  obtain ⟨b,off,cs,k,y,rfl,hb,hc,ht,hf⟩:=hel i hi
  obtain ⟨o,rfl,hfit⟩:=Fo ht hf
  exact ⟨o,⟨b,off,rfl,zle _,hb,⟨hc 0 (by omega),hc 1 (by omega)⟩⟩,hfit⟩)
 exact ⟨ad,n,cap,xs,rfl,hn,fun i hi=>(hxs i hi).1,fun i hi=>(hxs i hi).2⟩
set_option maxRecDepth 100000 in
theorem Oy {H:Type} {enc:TypeId × Value→H} {W:World} {fuel:Nat} {cs:List Value} {x:DataW H × List MemPlace} (h:DataW.trod enc Tryz.prog W 0 (fun _=>true) true fuel 24 cs=some x) (hs:Ub 24 x.1) :
  ∃ (d:Dk) (ad:Option Addr) (cap:Nat),cs=[.int .i64 d.pr,.int .i64 d.kn,.slice ad d.n cap]∧SlsIn W 0 W.1.size ad d.n d.s∧Uu d:=by
 obtain ⟨xs,n,_,rfl,hlen,hxl,hf⟩:=DataW.trod_struct Tryz.underlying24 h
 rw [Tryz.c24] at hlen
 obtain ⟨c0,c1,c2,rfl⟩:=list3 hlen
 obtain ⟨y0,y1,y2,rfl⟩:=list3 (show xs.length=3 from hxl)
 have g0:=hf 0 _ rfl
 have g1:=hf 1 _ rfl
 have g2:=hf 2 _ rfl
 simp only [List.getElem?_cons_succ,List.getElem?_cons_zero] at g0 g1 g2
 have hs':∀ z,z ∈ DataW.weights Tryz.prog 22 y2.1→z≤reachBytes:=fun z hz=>hs z (by
  simp only [List.map_cons,List.map_nil,DataW.weights,Tryz.underlying24,DataW.weightsEach,List.mem_append]
  simp [hz])
 obtain ⟨p,rfl⟩:=Ys g0
 obtain ⟨k,rfl⟩:=Ys g1
 obtain ⟨ad,n,cap,s,rfl,hn,hin,hfit⟩:=Ku g2 (fun z hz=>hs' z hz)
 exact ⟨⟨p,k,n,s⟩,ad,cap,rfl,hin,⟨hn,hfit⟩⟩
end Go.Proofs.YtokkbdlofbdljaaGreat
namespace Go.Proofs.YtokkbdlofbdljaaGreat
open Go.ChangeShapes Go.WideShapes Go.ChangeAt Go.RowKit
open Go.WideMaps Go.WideElems
theorem Tryz.own:ownKnob Tryz.prog.godebug=none:=by kernel_rfl
theorem Tryz.laidOut:laidOutB Tryz.prog=true:=by kernel_rfl
end Go.Proofs.YtokkbdlofbdljaaGreat
namespace Go.Proofs.YtokkbdlofbdljaaGreat
open Go.ChangeShapes Go.WideShapes Go.ChangeAt Go.RowKit Go.Deep
open Go.WideMaps Go.WideElems
set_option maxRecDepth 100000 in
theorem Fp {H:Type} {enc:TypeId × Value→H} {W:World} {fuel:Nat} {cs:List Value} {x:DataW H × List MemPlace} (h:DataW.trod enc Tryz.prog W 0 (fun _=>true) true fuel 48 cs=some x) (hs:Ub 48 x.1) :
  ∃ (m:Ms) (ad:Option Addr) (cap:Nat),cs=[.int .i64 m.kind,.int .i64 m.from_,.int .i64 m.to,.int .i64 m.bal,.int .i64 m.ix,.int .i64 m.kn,.string m.text,.slice ad m.n cap]∧SlsIn W 0 W.1.size ad m.n m.s∧Ji m:=by
 obtain ⟨xs,n,_,rfl,hlen,hxl,hf⟩:=DataW.trod_struct Tryz.underlying48 h
 rw [Tryz.c48] at hlen
 obtain ⟨c0,c1,c2,c3,c4,c5,c6,c7,rfl⟩:=list8 hlen
 obtain ⟨y0,y1,y2,y3,y4,y5,y6,y7,rfl⟩:=list8 (show xs.length=8 from hxl)
 have g0:=hf 0 _ rfl
 have g1:=hf 1 _ rfl
 have g2:=hf 2 _ rfl
 have g3:=hf 3 _ rfl
 have g4:=hf 4 _ rfl
 have g5:=hf 5 _ rfl
 have g6:=hf 6 _ rfl
 have g7:=hf 7 _ rfl
 simp only [List.getElem?_cons_succ,List.getElem?_cons_zero] at g0 g1 g2 g3 g4 g5 g6 g7
 have hs':∀ z,z ∈ DataW.weights Tryz.prog 9 y6.1∨z ∈ DataW.weights Tryz.prog 22 y7.1→z≤reachBytes:=fun z hz=>hs z (by
  simp only [List.map_cons,List.map_nil,DataW.weights,Tryz.underlying48,DataW.weightsEach,List.mem_append]
  rcases hz with hz|hz<;>simp [hz])
 obtain ⟨a0,rfl⟩:=Ys g0
 obtain ⟨a1,rfl⟩:=Ys g1
 obtain ⟨a2,rfl⟩:=Ys g2
 obtain ⟨a3,rfl⟩:=Ys g3
 obtain ⟨a4,rfl⟩:=Ys g4
 obtain ⟨a5,rfl⟩:=Ys g5
 obtain ⟨t,rfl,ft⟩:=PM g6 (fun z hz=>hs' z (Or.inl hz))
 obtain ⟨ad,n,cap,s,rfl,hn,hin,hfit⟩:=Ku g7 (fun z hz=>hs' z (Or.inr (hz)))
 exact ⟨⟨a0,a1,a2,a3,a4,a5,t,n,s⟩,ad,cap,rfl,hin,⟨ft,hn,hfit⟩⟩
end Go.Proofs.YtokkbdlofbdljaaGreat
