import Derived.Test.YtokkbdlofbdljaaGreatVd
import Derived.Lib.SliceRun
import Derived.Test.YtokkbdlofbdljaaGreatVf
namespace Go.Proofs.YtokkbdlofbdljaaGreat
open Go.RowKit
set_option maxHeartbeats 8000000
theorem Pc {ops:Array Oper} {l:Array Bool} (hord:((List.range ops.size).all fun i=>match ops[i]? with|some o=>o.after.all (fun e=>!(Region.binds .any e)||decide (e.on<i))|none=>true)=true) (hs:l.size=ops.size) (hr:Region.ready .any ops l=[]):∀ i,i<ops.size→l.getD i false=true:=by
 have conv:∀ i,i<ops.size→l.getD i true=l.getD i false:=fun i hi=>by simp [Array.getD,hs,hi]
 intro i
 induction i using Nat.strongRecOn with
 | _ i ih=>
  intro hi
  cases hg:l.getD i false with
  | true=>rfl
  | false=>
   have hm:i ∈ Region.ready .any ops l:=by
    rw [mem_ready]
    refine ⟨(conv i hi).trans hg,ops[i],by simp [hi],fun e he hbd=>?_⟩
    have h1:=List.all_eq_true.1 hord i (by simpa using hi)
    simp only [Array.getElem?_eq_getElem hi] at h1
    have h2:=(Array.all_eq_true_iff_forall_mem.1 h1) e he
    rw [hbd] at h2
    have h3:e.on<i:=by simpa using h2
    exact ih e.on h3 (by omega)
   rw [hr] at hm
   cases hm
theorem Ol {P:Program} {id:Nat} {ops:Array Oper} {Q:Exit→Act→World→Prop} {a0:Act} {W:World} (hm:P.follows .mixedOrders=true) (n:Nat)
  (mk:(Nat→Value)→Array Value) (t0:Nat→Value) (I:(Nat→Bool)→(Nat→Value)→World→Prop)
  (hn:ops.size=n) (hord:((List.range ops.size).all fun i=>match ops[i]? with|some o=>o.after.all (fun e=>!(Region.binds .any e)||decide (e.on<i))|none=>true)=true)
  (h0:a0=⟨mk t0,[]⟩) (hI:∀ f:Nat→Bool,(∀ i,f i=false)→I f t0 W.drew)
  (sg:∀ i,i<n→∀ (f:Nat→Bool) (t:Nat→Value) X K,I f t X→f i=false→(∀ j,ZV ops i j→f j=true)→(∀ p j,ZV ops p j→f p=true→f j=true)→(∀ v Y,(∀ g:Nat→Bool,g i=true→(∀ j,¬j=i→g j=f j)→I g (updT t i v) Y)→K ⟨mk (updT t i v),[]⟩ Y)→wpOp P ops Q i K ⟨mk t,[]⟩ X)
  (hfin:∀ (f:Nat→Bool) t X,(∀ i,i<n→f i=true)→I f t X→Q .normal ⟨mk t,[]⟩ X):(Code.region id ops true).wp P Q a0 W:=by
 refine Yz hm (fun l a X=>l.size=n∧(∀ p j,ZV ops p j→l.getD p false=true→l.getD j false=true)∧∃ t,a=⟨mk t,[]⟩∧I (fun i=>l.getD i false) t X) ?_ ?_ ?_ ?_
 ·have hz:∀ i,(Array.replicate ops.size false).getD i false=false:=fun i=>by simp [Array.getD]
  exact ⟨by simp [hn],fun p j _ h=>(by rw [hz] at h;cases h),t0,h0,hI _ hz⟩
 ·rintro l a X ⟨hs,_⟩
  rw [hs,hn]
 ·rintro l a X ⟨hs,_,t,rfl,h⟩ hr
  exact hfin _ t X (fun i hi=>Pc hord (by rw [hs,hn]) hr i (by omega)) h
 ·rintro l a X i ⟨hs,hcl,t,rfl,h⟩ hr
  obtain ⟨hu,o,ho,hall⟩:=mem_ready.1 hr
  have di:∀ j,ZV ops i j→l.getD j false=true:=by
   rintro j ⟨o',ho',e,he,hb,rfl⟩
   rw [ho] at ho'
   obtain rfl:o=o':=by simpa using ho'
   exact hall e he hb
  have hi7:i<n:=by
   rcases Nat.lt_or_ge i n with h|h
   ·exact h
   ·rw [Array.getElem?_eq_none (by omega)] at ho
    cases ho
  have hui:l.getD i false=false:=by
   have:l.getD i true=false:=hu
   simpa [Array.getD,hs,hi7] using this
  have ki:(l.setIfInBounds i true).getD i false=true:=by rw [Yl (by omega),if_pos rfl]
  have kp:∀ j,¬j=i→(l.setIfInBounds i true).getD j false=l.getD j false:=fun j hj=>by rw [Yl (by omega),if_neg hj]
  have ku:∀ j,l.getD j false=true→(l.setIfInBounds i true).getD j false=true:=fun j h=>by
   by_cases e:j=i
   ·subst e;exact ki
   ·rw [kp j e];exact h
  refine sg i hi7 _ t X _ h hui di hcl (fun v Y hY=>⟨by simp [hs],fun p j hj h=>?_,updT t i v,rfl,hY _ ki kp⟩)
  by_cases e:p=i
  ·subst e;exact ku j (di j hj)
  ·rw [kp p e] at h;exact ku j (hcl p j hj h)
theorem regionI {P:Program} {id:Nat} {ops:Array Oper} {Q:Exit→Act→World→Prop} {a0:Act} {W:World} (hm:P.follows .mixedOrders=true) (n:Nat)
  (mk:(Nat→Value)→Array Value) (t0:Nat→Value) (I:(Nat→Bool)→(Nat→Value)→World→Prop)
  (hn:ops.size=n) (hord:((List.range ops.size).all fun i=>match ops[i]? with|some o=>o.after.all (fun e=>!(Region.binds .any e)||decide (e.on<i))|none=>true)=true)
  (h0:a0=⟨mk t0,[]⟩) (hI:∀ f:Nat→Bool,(∀ i,f i=false)→I f t0 W.drew)
  (sg:∀ i,i<n→∀ (f:Nat→Bool) (t:Nat→Value) X K,I f t X→f i=false→(∀ j,ZV ops i j→f j=true)→(∀ v Y,(∀ g:Nat→Bool,g i=true→(∀ j,¬j=i→g j=f j)→I g (updT t i v) Y)→K ⟨mk (updT t i v),[]⟩ Y)→wpOp P ops Q i K ⟨mk t,[]⟩ X)
  (hfin:∀ (f:Nat→Bool) t X,(∀ i,i<n→f i=true)→I f t X→Q .normal ⟨mk t,[]⟩ X):(Code.region id ops true).wp P Q a0 W:=
 Ol hm n mk t0 I hn hord h0 hI (fun i hi f t X K h1 h2 h3 _ h5=>sg i hi f t X K h1 h2 h3 h5) hfin
abbrev UR (r:Rc) (bl:Int) (a b c:Bool):Rc:={ r with dk:={ r.dk with pr:=if a then bl else r.dk.pr },bal:=if b then bl else r.bal,tr:=if c then true else r.tr }
theorem RcG.tri {w:World} {r:Rc} {p:RcP} (h:RcG w r p) (bl:Int) (a b c:Bool):RcG w (UR r bl a b c) p:=⟨⟨h.at_.o0,h.at_.o1,h.at_.o2,h.at_.o3,h.at_.o4,h.at_.o5,h.at_.o6,h.at_.lt,h.at_.ap⟩,⟨h.rm.dl,h.rm.d0,h.rm.dr,h.rm.hl,h.rm.h0,h.rm.hr⟩⟩
def U0 (T B:Nat) (bl:Int) (i:Nat) (v:Value):Prop:=
 match i with
 | 0=>v=.pointer (some ⟨T,0,none⟩)
 | 1=>v=.pointer (some ⟨T,0,none⟩)
 | 2=>v=.pointer (some ⟨T,0,none⟩)
 | 3=>v=.pointer (some ⟨B,0,none⟩)
 | 4=>v=.pointer (some ⟨T,0,none⟩)
 | 5=>v=.pointer (some ⟨T,0,none⟩)
 | 6=>v=.pointer (some ⟨T,0,none⟩)
 | 7=>v=.pointer (some ⟨B,0,none⟩)
 | 8=>v=.pointer (some ⟨T,0,none⟩)
 | 9=>v=.pointer (some ⟨T,0,none⟩)
 | 10=>v=.pointer (some ⟨T,0,none⟩)
 | 11=>v=.pointer (some ⟨B,0,none⟩)
 | 12=>v=.int .i64 bl
 | 13=>v=.int .i64 bl
 | 14=>v=.pointer (some ⟨B,0,none⟩)
 | 15=>v=.pointer (some ⟨B,6,none⟩)
 | 16=>v=.pointer (some ⟨B,6,none⟩)
 | 18=>v=.pointer (some ⟨B,0,none⟩)
 | 19=>v=.pointer (some ⟨B,13,none⟩)
 | 21=>v=.pointer (some ⟨B,0,none⟩)
 | 22=>v=.pointer (some ⟨B,12,none⟩)
 | _=>True
structure Ttl5 (T B:Nat) (bl:Int) (r:Rc) (p:RcP) (W:World) (f:Nat→Bool) (t:Nat→Value) (X:World):Prop where
 fr:FrP (fun q=>q=B) W X
 bx:Bx X B (rcC (UR r bl (f 17) (f 20) (f 23)) p.A)
 vl:∀ i,f i=true→U0 T B bl i (t i)
theorem Ttl5.val {T B:Nat} {bl:Int} {r:Rc} {p:RcP} {W X:World} {f:Nat→Bool} {t:Nat→Value} (h:Ttl5 T B bl r p W f t X) {i:Nat} {v:Value} (hv:U0 T B bl i v) (g:Nat→Bool) (g2:∀ j,¬j=i→g j=f j):∀ j,g j=true→U0 T B bl j (updT t i v j):=fun j hj=>by
 by_cases e:j=i
 ·subst e;rw [YA];exact hv
 ·rw [ZO e];exact h.vl j ((g2 j e).symm.trans hj)
theorem Ttl5.step {T B:Nat} {bl:Int} {r:Rc} {p:RcP} {W X:World} {f:Nat→Bool} {t:Nat→Value} (h:Ttl5 T B bl r p W f t X) {i:Nat} {v:Value} (hv:U0 T B bl i v) (h1:¬17=i) (h2:¬20=i) (h3:¬23=i) (g:Nat→Bool) (_:g i=true) (g2:∀ j,¬j=i→g j=f j):Ttl5 T B bl r p W g (updT t i v) X:=
 ⟨h.fr,by rw [g2 17 h1,g2 20 h2,g2 23 h3];exact h.bx,h.val hv g g2⟩
theorem Ttl5.s17 {T B:Nat} {bl:Int} {r:Rc} {p:RcP} {W X:World} {f:Nat→Bool} {t:Nat→Value} (h:Ttl5 T B bl r p W f t X) (v:Value) (g:Nat→Bool) (g1:g 17=true) (g2:∀ j,¬j=17→g j=f j):Ttl5 T B bl r p W g (updT t 17 v) (X.setCell ⟨B,6,none⟩ (.int .i64 bl)):=
 ⟨h.fr.setCell (p:=⟨B,6,none⟩) rfl _,by rw [g1,g2 20 (by omega),g2 23 (by omega)];exact h.bx.to (h.bx.cell.set (i:=6) (by simp) _),h.val (i:=17) (v:=v) trivial g g2⟩
theorem Ttl5.s20 {T B:Nat} {bl:Int} {r:Rc} {p:RcP} {W X:World} {f:Nat→Bool} {t:Nat→Value} (h:Ttl5 T B bl r p W f t X) (v:Value) (g:Nat→Bool) (g1:g 20=true) (g2:∀ j,¬j=20→g j=f j):Ttl5 T B bl r p W g (updT t 20 v) (X.setCell ⟨B,13,none⟩ (.int .i64 bl)):=
 ⟨h.fr.setCell (p:=⟨B,13,none⟩) rfl _,by rw [g1,g2 17 (by omega),g2 23 (by omega)];exact h.bx.to (h.bx.cell.set (i:=13) (by simp) _),h.val (i:=20) (v:=v) trivial g g2⟩
theorem Ttl5.s23 {T B:Nat} {bl:Int} {r:Rc} {p:RcP} {W X:World} {f:Nat→Bool} {t:Nat→Value} (h:Ttl5 T B bl r p W f t X) (v:Value) (g:Nat→Bool) (g1:g 23=true) (g2:∀ j,¬j=23→g j=f j):Ttl5 T B bl r p W g (updT t 23 v) (X.setCell ⟨B,12,none⟩ (.bool true)):=
 ⟨h.fr.setCell (p:=⟨B,12,none⟩) rfl _,by rw [g1,g2 17 (by omega),g2 20 (by omega)];exact h.bx.to (h.bx.cell.set (i:=12) (by simp) _),h.val (i:=23) (v:=v) trivial g g2⟩
set_option maxRecDepth 100000 in
theorem ttlReg5 (p1 p3 p4 p5 p6 p7 p8 p9 ze zc za zd zi zj zg zh zn zm zo zp zq yb yf ye z9 yd z8 z0 zu zy zt yg yi yj yh yk ym yo yr yt xo jo jm jp j7 kj ko j8 j5 j9 kg kd jw ju yp yq yv yw xx xy xc yu yx xn xp xq xr xu xt jt jr jq kf ke kk kq kh:Value) (w0 w1 w2 w3 w4 w5 w6 w7 w8 w9 w10 w11 w12 w13 w14 w15 w16 w18 w19 w21 w22:Value) (T B:Nat) (bl:Int) (r:Rc) (p:RcP) (W:World) (hT:T<W.1.size) (hTB:¬T=B) (cT0:W.cell? ⟨T,0,none⟩=some (.pointer (some ⟨B,0,none⟩))) (hB:Bx W B (rcC r p.A)) (Q:Exit→Act→World→Prop) (hQ:∀ (t:Nat→Value) X,FrP (fun q=>q=B) W X→Bx X B (rcC (UR r bl true true true) p.A)→Q .normal ⟨#[.pointer (some ⟨T,0,none⟩),p1,.int .i64 bl,p3,p4,p5,p6,p7,p8,p9,ze,zc,za,zd,zi,zj,zg,zh,zn,zm,zo,zp,zq,yb,yf,ye,z9,yd,z8,z0,zu,zy,zt,yg,yi,yj,yh,yk,ym,yo,yr,yt,xo,jo,jm,jp,j7,kj,ko,j8,j5,j9,kg,kd,jw,ju,yp,yq,yv,yw,xx,xy,xc,yu,yx,t 0,t 1,t 2,t 3,t 4,t 5,t 6,t 7,t 8,t 9,t 10,t 11,t 12,t 13,t 14,t 15,t 16,t 18,t 19,t 21,t 22,xn,xp,xq,xr,xu,xt,jt,jr,jq,kf,ke,kk,kq,kh],[]⟩ X) :
  Code.wp Tryz.prog (Code.region 5 #[⟨some 65,.move (.tmp 0),125,Qa,#[],none⟩,⟨some 66,.nilCheck (.tmp 65),0,Qa,#[⟨0,.data⟩],none⟩,⟨some 67,.fieldAddr 122 (.tmp 66) 0,0,Qa,#[⟨1,.data⟩],none⟩,⟨some 68,.load 81 (.tmp 67),81,Qa,#[⟨2,.data⟩],none⟩,⟨some 69,.move (.tmp 0),125,Qa,#[],none⟩,⟨some 70,.nilCheck (.tmp 69),0,Qa,#[⟨4,.data⟩],none⟩,⟨some 71,.fieldAddr 122 (.tmp 70) 0,0,Qa,#[⟨5,.data⟩],none⟩,⟨some 72,.load 81 (.tmp 71),81,Qa,#[⟨6,.data⟩],none⟩,⟨some 73,.move (.tmp 0),125,Qa,#[],none⟩,⟨some 74,.nilCheck (.tmp 73),0,Qa,#[⟨8,.data⟩],none⟩,⟨some 75,.fieldAddr 122 (.tmp 74) 0,0,Qa,#[⟨9,.data⟩],none⟩,⟨some 76,.load 81 (.tmp 75),81,Qa,#[⟨10,.data⟩],none⟩,⟨some 77,.move (.tmp 2),3,Qa,#[],none⟩,⟨some 78,.move (.tmp 2),3,Qa,#[{ on:=17,ground:=Ground.gcOnly Departure.lateStores }],none⟩,⟨some 79,.nilCheck (.tmp 68),0,Qa,#[⟨3,.data⟩,⟨0,.phase⟩,⟨1,.phase⟩,⟨2,.phase⟩,⟨3,.phase⟩,{ on:=4,ground:=Ground.textOnly Departure.lateStores },{ on:=5,ground:=Ground.textOnly Departure.lateStoresUnsure },{ on:=6,ground:=Ground.textOnly Departure.lateStoresUnsure },⟨7,.phase⟩,{ on:=8,ground:=Ground.textOnly Departure.lateStores },{ on:=9,ground:=Ground.textOnly Departure.lateStoresUnsure },{ on:=10,ground:=Ground.textOnly Departure.lateStoresUnsure },⟨11,.phase⟩,⟨12,.phase⟩,{ on:=13,ground:=Ground.textOnly Departure.lateStores }],none⟩,⟨some 80,.fieldAddr 38 (.tmp 79) 4,0,Qa,#[⟨14,.data⟩,⟨0,.phase⟩,⟨1,.phase⟩,⟨2,.phase⟩,⟨3,.phase⟩,{ on:=4,ground:=Ground.textOnly Departure.lateStores },{ on:=5,ground:=Ground.textOnly Departure.lateStoresUnsure },{ on:=6,ground:=Ground.textOnly Departure.lateStoresUnsure },⟨7,.phase⟩,{ on:=8,ground:=Ground.textOnly Departure.lateStores },{ on:=9,ground:=Ground.textOnly Departure.lateStoresUnsure },{ on:=10,ground:=Ground.textOnly Departure.lateStoresUnsure },⟨11,.phase⟩,⟨12,.phase⟩,{ on:=13,ground:=Ground.textOnly Departure.lateStores }],none⟩,⟨some 81,.fieldAddr 34 (.tmp 80) 0,0,Qa,#[⟨15,.data⟩,⟨0,.phase⟩,⟨1,.phase⟩,⟨2,.phase⟩,⟨3,.phase⟩,{ on:=4,ground:=Ground.textOnly Departure.lateStores },{ on:=5,ground:=Ground.textOnly Departure.lateStoresUnsure },{ on:=6,ground:=Ground.textOnly Departure.lateStoresUnsure },⟨7,.phase⟩,{ on:=8,ground:=Ground.textOnly Departure.lateStores },{ on:=9,ground:=Ground.textOnly Departure.lateStoresUnsure },{ on:=10,ground:=Ground.textOnly Departure.lateStoresUnsure },⟨11,.phase⟩,⟨12,.phase⟩,{ on:=13,ground:=Ground.textOnly Departure.lateStores }],none⟩,⟨none,.store 3 (.tmp 81) (.tmp 77),0,Qa,#[⟨16,.data⟩,⟨12,.data⟩,⟨0,.phase⟩,⟨1,.phase⟩,⟨2,.phase⟩,⟨3,.phase⟩,{ on:=4,ground:=Ground.textOnly Departure.lateStores },{ on:=5,ground:=Ground.textOnly Departure.lateStoresUnsure },{ on:=6,ground:=Ground.textOnly Departure.lateStoresUnsure },⟨7,.phase⟩,{ on:=8,ground:=Ground.textOnly Departure.lateStores },{ on:=9,ground:=Ground.textOnly Departure.lateStoresUnsure },{ on:=10,ground:=Ground.textOnly Departure.lateStoresUnsure },⟨11,.phase⟩,⟨12,.phase⟩,{ on:=13,ground:=Ground.textOnly Departure.lateStores }],none⟩,⟨some 82,.nilCheck (.tmp 72),0,Qa,#[⟨7,.data⟩,⟨0,.phase⟩,⟨1,.phase⟩,⟨2,.phase⟩,⟨3,.phase⟩,⟨4,.phase⟩,⟨5,.phase⟩,⟨6,.phase⟩,⟨7,.phase⟩,{ on:=8,ground:=Ground.textOnly Departure.lateStores },{ on:=9,ground:=Ground.textOnly Departure.lateStoresUnsure },{ on:=10,ground:=Ground.textOnly Departure.lateStoresUnsure },⟨11,.phase⟩,⟨12,.phase⟩,⟨13,.phase⟩,⟨14,.phase⟩,⟨15,.phase⟩,⟨16,.phase⟩,⟨17,.phase⟩],none⟩,⟨some 83,.fieldAddr 38 (.tmp 82) 9,0,Qa,#[⟨18,.data⟩,⟨0,.phase⟩,⟨1,.phase⟩,⟨2,.phase⟩,⟨3,.phase⟩,⟨4,.phase⟩,⟨5,.phase⟩,⟨6,.phase⟩,⟨7,.phase⟩,{ on:=8,ground:=Ground.textOnly Departure.lateStores },{ on:=9,ground:=Ground.textOnly Departure.lateStoresUnsure },{ on:=10,ground:=Ground.textOnly Departure.lateStoresUnsure },⟨11,.phase⟩,⟨12,.phase⟩,⟨13,.phase⟩,⟨14,.phase⟩,⟨15,.phase⟩,⟨16,.phase⟩,⟨17,.phase⟩],none⟩,⟨none,.store 3 (.tmp 83) (.tmp 78),0,Qa,#[⟨19,.data⟩,⟨13,.data⟩,⟨17,.chain⟩,⟨0,.phase⟩,⟨1,.phase⟩,⟨2,.phase⟩,⟨3,.phase⟩,⟨4,.phase⟩,⟨5,.phase⟩,⟨6,.phase⟩,⟨7,.phase⟩,{ on:=8,ground:=Ground.textOnly Departure.lateStores },{ on:=9,ground:=Ground.textOnly Departure.lateStoresUnsure },{ on:=10,ground:=Ground.textOnly Departure.lateStoresUnsure },⟨11,.phase⟩,⟨12,.phase⟩,⟨13,.phase⟩,⟨14,.phase⟩,⟨15,.phase⟩,⟨16,.phase⟩,⟨17,.phase⟩],none⟩,⟨some 84,.nilCheck (.tmp 76),0,Qa,#[⟨11,.data⟩,⟨0,.phase⟩,⟨1,.phase⟩,⟨2,.phase⟩,⟨3,.phase⟩,⟨4,.phase⟩,⟨5,.phase⟩,⟨6,.phase⟩,⟨7,.phase⟩,⟨8,.phase⟩,⟨9,.phase⟩,⟨10,.phase⟩,⟨11,.phase⟩,⟨12,.phase⟩,⟨13,.phase⟩,⟨14,.phase⟩,⟨15,.phase⟩,⟨16,.phase⟩,⟨17,.phase⟩,⟨18,.phase⟩,⟨19,.phase⟩,⟨20,.phase⟩],none⟩,⟨some 85,.fieldAddr 38 (.tmp 84) 8,0,Qa,#[⟨21,.data⟩,⟨0,.phase⟩,⟨1,.phase⟩,⟨2,.phase⟩,⟨3,.phase⟩,⟨4,.phase⟩,⟨5,.phase⟩,⟨6,.phase⟩,⟨7,.phase⟩,⟨8,.phase⟩,⟨9,.phase⟩,⟨10,.phase⟩,⟨11,.phase⟩,⟨12,.phase⟩,⟨13,.phase⟩,⟨14,.phase⟩,⟨15,.phase⟩,⟨16,.phase⟩,⟨17,.phase⟩,⟨18,.phase⟩,⟨19,.phase⟩,⟨20,.phase⟩],none⟩,⟨none,.store 4 (.tmp 85) (.const (.bool true)),0,Qa,#[⟨22,.data⟩,⟨20,.chain⟩,⟨0,.phase⟩,⟨1,.phase⟩,⟨2,.phase⟩,⟨3,.phase⟩,⟨4,.phase⟩,⟨5,.phase⟩,⟨6,.phase⟩,⟨7,.phase⟩,⟨8,.phase⟩,⟨9,.phase⟩,⟨10,.phase⟩,⟨11,.phase⟩,⟨12,.phase⟩,⟨13,.phase⟩,⟨14,.phase⟩,⟨15,.phase⟩,⟨16,.phase⟩,⟨17,.phase⟩,⟨18,.phase⟩,⟨19,.phase⟩,⟨20,.phase⟩],none⟩] true) Q ⟨#[.pointer (some ⟨T,0,none⟩),p1,.int .i64 bl,p3,p4,p5,p6,p7,p8,p9,ze,zc,za,zd,zi,zj,zg,zh,zn,zm,zo,zp,zq,yb,yf,ye,z9,yd,z8,z0,zu,zy,zt,yg,yi,yj,yh,yk,ym,yo,yr,yt,xo,jo,jm,jp,j7,kj,ko,j8,j5,j9,kg,kd,jw,ju,yp,yq,yv,yw,xx,xy,xc,yu,yx,w0,w1,w2,w3,w4,w5,w6,w7,w8,w9,w10,w11,w12,w13,w14,w15,w16,w18,w19,w21,w22,xn,xp,xq,xr,xu,xt,jt,jr,jq,kf,ke,kk,kq,kh],[]⟩ W:=by
 refine regionI (by kernel_rfl) 24 (fun t:Nat→Value=>#[.pointer (some ⟨T,0,none⟩),p1,.int .i64 bl,p3,p4,p5,p6,p7,p8,p9,ze,zc,za,zd,zi,zj,zg,zh,zn,zm,zo,zp,zq,yb,yf,ye,z9,yd,z8,z0,zu,zy,zt,yg,yi,yj,yh,yk,ym,yo,yr,yt,xo,jo,jm,jp,j7,kj,ko,j8,j5,j9,kg,kd,jw,ju,yp,yq,yv,yw,xx,xy,xc,yu,yx,t 0,t 1,t 2,t 3,t 4,t 5,t 6,t 7,t 8,t 9,t 10,t 11,t 12,t 13,t 14,t 15,t 16,t 18,t 19,t 21,t 22,xn,xp,xq,xr,xu,xt,jt,jr,jq,kf,ke,kk,kq,kh]) (fun i=>match i with|0=>w0|1=>w1|2=>w2|3=>w3|4=>w4|5=>w5|6=>w6|7=>w7|8=>w8|9=>w9|10=>w10|11=>w11|12=>w12|13=>w13|14=>w14|15=>w15|16=>w16|18=>w18|19=>w19|21=>w21|_=>w22) (Ttl5 T B bl r p W) (by kernel_rfl) (by kernel_rfl) rfl (fun f hf=>⟨FrP.of_below (br _ _).drew,by rw [hf,hf,hf];exact hB.below (B:=W.1.size) (br _ _).drew hB.lt,fun i hi=>by rw [hf] at hi;cases hi⟩) ?_ (fun f t X hf h=>hQ t X h.fr (by have:=h.bx;rw [hf 17 (by omega),hf 20 (by omega),hf 23 (by omega)] at this;exact this))
 intro i hi f t X K hI hfi hw hK
 have cT:X.cell? ⟨T,0,none⟩=some (.pointer (some ⟨B,0,none⟩)):=(hI.fr.cell (p:=⟨T,0,none⟩) hT hTB).trans cT0
 have c6:=hI.bx.cell 6
 have c12:=hI.bx.cell 12
 have c13:=hI.bx.cell 13
 have z6:=hI.bx.free 6
 have z12:=hI.bx.free 12
 have z13:=hI.bx.free 13
 rcases (show i=0∨i=1∨i=2∨i=3∨i=4∨i=5∨i=6∨i=7∨i=8∨i=9∨i=10∨i=11∨i=12∨i=13∨i=14∨i=15∨i=16∨i=17∨i=18∨i=19∨i=20∨i=21∨i=22∨i=23 by omega) with rfl|rfl|rfl|rfl|rfl|rfl|rfl|rfl|rfl|rfl|rfl|rfl|rfl|rfl|rfl|rfl|rfl|rfl|rfl|rfl|rfl|rfl|rfl|rfl
 ·have h:=hK (.pointer (some ⟨T,0,none⟩)) X (hI.step (i:=0) rfl (by omega) (by omega) (by omega))
  refine Zi rfl rfl ?_
  clear hK hw hfi hI
  go_simp
  simpa [updT] using h
 ·have e0:t 0=.pointer (some ⟨T,0,none⟩):=hI.vl 0 (hw 0 (Wt rfl))
  have h:=hK (.pointer (some ⟨T,0,none⟩)) X (hI.step (i:=1) rfl (by omega) (by omega) (by omega))
  refine Zi rfl rfl ?_
  clear hK hw hfi hI
  simp only [e0]
  go_simp
  simpa [updT,e0] using h
 ·have e1:t 1=.pointer (some ⟨T,0,none⟩):=hI.vl 1 (hw 1 (Wt rfl))
  have h:=hK (.pointer (some ⟨T,0,none⟩)) X (hI.step (i:=2) rfl (by omega) (by omega) (by omega))
  refine Zi rfl rfl ?_
  clear hK hw hfi hI
  simp only [e1]
  go_simp
  simpa [updT,e1] using h
 ·have e2:t 2=.pointer (some ⟨T,0,none⟩):=hI.vl 2 (hw 2 (Wt rfl))
  have h:=hK (.pointer (some ⟨B,0,none⟩)) X (hI.step (i:=3) rfl (by omega) (by omega) (by omega))
  refine Zi rfl rfl ?_
  clear hK hw hfi hI
  simp only [e2]
  go_simp
  simpa [updT,e2] using h
 ·have h:=hK (.pointer (some ⟨T,0,none⟩)) X (hI.step (i:=4) rfl (by omega) (by omega) (by omega))
  refine Zi rfl rfl ?_
  clear hK hw hfi hI
  go_simp
  simpa [updT] using h
 ·have e4:t 4=.pointer (some ⟨T,0,none⟩):=hI.vl 4 (hw 4 (Wt rfl))
  have h:=hK (.pointer (some ⟨T,0,none⟩)) X (hI.step (i:=5) rfl (by omega) (by omega) (by omega))
  refine Zi rfl rfl ?_
  clear hK hw hfi hI
  simp only [e4]
  go_simp
  simpa [updT,e4] using h
 ·have e5:t 5=.pointer (some ⟨T,0,none⟩):=hI.vl 5 (hw 5 (Wt rfl))
  have h:=hK (.pointer (some ⟨T,0,none⟩)) X (hI.step (i:=6) rfl (by omega) (by omega) (by omega))
  refine Zi rfl rfl ?_
  clear hK hw hfi hI
  simp only [e5]
  go_simp
  simpa [updT,e5] using h
 ·have e6:t 6=.pointer (some ⟨T,0,none⟩):=hI.vl 6 (hw 6 (Wt rfl))
  have h:=hK (.pointer (some ⟨B,0,none⟩)) X (hI.step (i:=7) rfl (by omega) (by omega) (by omega))
  refine Zi rfl rfl ?_
  clear hK hw hfi hI
  simp only [e6]
  go_simp
  simpa [updT,e6] using h
 ·have h:=hK (.pointer (some ⟨T,0,none⟩)) X (hI.step (i:=8) rfl (by omega) (by omega) (by omega))
  refine Zi rfl rfl ?_
  clear hK hw hfi hI
  go_simp
  simpa [updT] using h
 ·have e8:t 8=.pointer (some ⟨T,0,none⟩):=hI.vl 8 (hw 8 (Wt rfl))
  have h:=hK (.pointer (some ⟨T,0,none⟩)) X (hI.step (i:=9) rfl (by omega) (by omega) (by omega))
  refine Zi rfl rfl ?_
  clear hK hw hfi hI
  simp only [e8]
  go_simp
  simpa [updT,e8] using h
 ·have e9:t 9=.pointer (some ⟨T,0,none⟩):=hI.vl 9 (hw 9 (Wt rfl))
  have h:=hK (.pointer (some ⟨T,0,none⟩)) X (hI.step (i:=10) rfl (by omega) (by omega) (by omega))
  refine Zi rfl rfl ?_
  clear hK hw hfi hI
  simp only [e9]
  go_simp
  simpa [updT,e9] using h
 ·have e10:t 10=.pointer (some ⟨T,0,none⟩):=hI.vl 10 (hw 10 (Wt rfl))
  have h:=hK (.pointer (some ⟨B,0,none⟩)) X (hI.step (i:=11) rfl (by omega) (by omega) (by omega))
  refine Zi rfl rfl ?_
  clear hK hw hfi hI
  simp only [e10]
  go_simp
  simpa [updT,e10] using h
 ·have h:=hK (.int .i64 bl) X (hI.step (i:=12) rfl (by omega) (by omega) (by omega))
  refine Zi rfl rfl ?_
  clear hK hw hfi hI
  go_simp
  simpa [updT] using h
 ·have h:=hK (.int .i64 bl) X (hI.step (i:=13) rfl (by omega) (by omega) (by omega))
  refine Zi rfl rfl ?_
  clear hK hw hfi hI
  go_simp
  simpa [updT] using h
 ·have e3:t 3=.pointer (some ⟨B,0,none⟩):=hI.vl 3 (hw 3 (Wt rfl))
  have h:=hK (.pointer (some ⟨B,0,none⟩)) X (hI.step (i:=14) rfl (by omega) (by omega) (by omega))
  refine Zi rfl rfl ?_
  clear hK hw hfi hI
  simp only [e3]
  go_simp
  simpa [updT,e3] using h
 ·have e14:t 14=.pointer (some ⟨B,0,none⟩):=hI.vl 14 (hw 14 (Wt rfl))
  have h:=hK (.pointer (some ⟨B,6,none⟩)) X (hI.step (i:=15) rfl (by omega) (by omega) (by omega))
  refine Zi rfl rfl ?_
  clear hK hw hfi hI
  simp only [e14]
  go_simp
  simpa [updT,e14] using h
 ·have e15:t 15=.pointer (some ⟨B,6,none⟩):=hI.vl 15 (hw 15 (Wt rfl))
  have h:=hK (.pointer (some ⟨B,6,none⟩)) X (hI.step (i:=16) rfl (by omega) (by omega) (by omega))
  refine Zi rfl rfl ?_
  clear hK hw hfi hI
  simp only [e15]
  go_simp
  simpa [updT,e15] using h
 ·have e16:t 16=.pointer (some ⟨B,6,none⟩):=hI.vl 16 (hw 16 (Wt rfl))
  have e12:t 12=.int .i64 bl:=hI.vl 12 (hw 12 (Wt rfl))
  have h:=hK (.tuple #[]) (X.setCell ⟨B,6,none⟩ (.int .i64 bl)) (hI.s17 _)
  refine Zi rfl rfl ?_
  clear hK hw hfi hI
  simp only [e16,e12]
  go_simp
  simpa [updT,e16,e12] using h
 ·have e7:t 7=.pointer (some ⟨B,0,none⟩):=hI.vl 7 (hw 7 (Wt rfl))
  have h:=hK (.pointer (some ⟨B,0,none⟩)) X (hI.step (i:=18) rfl (by omega) (by omega) (by omega))
  refine Zi rfl rfl ?_
  clear hK hw hfi hI
  simp only [e7]
  go_simp
  simpa [updT,e7] using h
 ·have e18:t 18=.pointer (some ⟨B,0,none⟩):=hI.vl 18 (hw 18 (Wt rfl))
  have h:=hK (.pointer (some ⟨B,13,none⟩)) X (hI.step (i:=19) rfl (by omega) (by omega) (by omega))
  refine Zi rfl rfl ?_
  clear hK hw hfi hI
  simp only [e18]
  go_simp
  simpa [updT,e18] using h
 ·have e19:t 19=.pointer (some ⟨B,13,none⟩):=hI.vl 19 (hw 19 (Wt rfl))
  have e13:t 13=.int .i64 bl:=hI.vl 13 (hw 13 (Wt rfl))
  have h:=hK (.tuple #[]) (X.setCell ⟨B,13,none⟩ (.int .i64 bl)) (hI.s20 _)
  refine Zi rfl rfl ?_
  clear hK hw hfi hI
  simp only [e19,e13]
  go_simp
  simpa [updT,e19,e13] using h
 ·have e11:t 11=.pointer (some ⟨B,0,none⟩):=hI.vl 11 (hw 11 (Wt rfl))
  have h:=hK (.pointer (some ⟨B,0,none⟩)) X (hI.step (i:=21) rfl (by omega) (by omega) (by omega))
  refine Zi rfl rfl ?_
  clear hK hw hfi hI
  simp only [e11]
  go_simp
  simpa [updT,e11] using h
 ·have e21:t 21=.pointer (some ⟨B,0,none⟩):=hI.vl 21 (hw 21 (Wt rfl))
  have h:=hK (.pointer (some ⟨B,12,none⟩)) X (hI.step (i:=22) rfl (by omega) (by omega) (by omega))
  refine Zi rfl rfl ?_
  clear hK hw hfi hI
  simp only [e21]
  go_simp
  simpa [updT,e21] using h
 ·have e22:t 22=.pointer (some ⟨B,12,none⟩):=hI.vl 22 (hw 22 (Wt rfl))
  have h:=hK (.tuple #[]) (X.setCell ⟨B,12,none⟩ (.bool true)) (hI.s23 _)
  refine Zi rfl rfl ?_
  clear hK hw hfi hI
  simp only [e22]
  go_simp
  simpa [updT,e22] using h
def KI (num:Int) (m:Ms):Nat→Rc→Rc
 | 0,r=>r
 | k+1,r=>if (k:Int)+1=num then KI num m k r else Zo (KI num m k r) (toM num m k)
theorem NA (num:Int) (m:Ms) (r:Rc):∀ k,(KI num m k r).num=r.num
 | 0=>rfl
 | k+1=>by
  have h:=NA num m r k
  rw [KI]
  split
  ·exact h
  ·unfold Zo
   split
   ·exact h
   ·exact h
abbrev XX (r:Rc):Rc:={ ZD r with hd:=0 }
theorem RcG.wait {w:World} {r:Rc} {p:RcP} (h:RcG w r p):RcG w (XX r) (Yo p none none none 0 0 0):=by
 have hg:=h.calm none none none 0 0 0
 exact ⟨⟨hg.at_.o0,hg.at_.o1,hg.at_.o2,hg.at_.o3,hg.at_.o4,hg.at_.o5,hg.at_.o6,hg.at_.lt,hg.at_.ap⟩,⟨hg.rm.dl,hg.rm.d0,hg.rm.dr,hg.rm.hl,hg.rm.h0,hg.rm.hr⟩⟩
theorem Fc {p:RcP} {r:Rc} {k:Nat} (h:rbs (Yo p none none none 0 0 0) (XX r) k):rbs p r k:=Xv (r:=r) h
def Xm (b:Int):Ms:=⟨1,0,0,b,0,0,⟨#[]⟩,0,fun _=>⟨0,⟨#[]⟩⟩⟩
def If (r:Rc) (b:Int):Rc:=if b=0 then XX r else KI r.num (Xm b) r.of.toNat (UR (XX r) b true true true)
def Nk (r:Rc):Rc:=if r.ld=true∨r.hd≤4+3*r.num then r else If r (nbR r.dk.pr r.num r.of)
theorem EP (r:Rc) (b:Int):(If r b).num=r.num:=by
 unfold If
 split
 ·rfl
 ·exact NA _ _ _ _
theorem FD (_T B:Nat) (r:Rc) (p:RcP) (bl:Int) (w X:World) (qh:Nat) (ho0:0≤r.of) (ho1:r.of≤1000) (hbx:Bx w B (rcC r p.A)) (hg:RcG w r p) (hB:∀ k,rbs p r k→k≠B) (hb:Below w.1.size w X) (hq:w.1.size≤qh) (hql:qh<X.1.size) (hqc:X.cell? ⟨qh,0,none⟩=some (.pointer (some ⟨B,0,none⟩))) :
  Calls Tryz.prog 149 #[rcV r p.A,.agg #[.int .i64 1,.int .i64 0,.int .i64 0,.int .i64 bl,.int .i64 0,.int .i64 0,.string ⟨#[]⟩,.slice none 0 0],.func (.func 150) #[] #[.pointer (some ⟨qh,0,none⟩)]] X fun e w'=>e=.returned (.tuple #[])∧DoR B r p (KI r.num (Xm bl) r.of.toNat r) w (.returned (.tuple #[])) w':=by
 have lB:=hbx.lt
 have lt:=hg.at_.lt
 have zb:=hb.size
 refine (NL r p.A (Xm bl) rfl qh X ho0 ho1 (fun k Y=>X.1.size≤Y.1.size∧Y.cell? ⟨qh,0,none⟩=some (.pointer (some ⟨B,0,none⟩))∧∃ p',Bx Y B (rcC (KI r.num (Xm bl) k r) p'.A)∧RcG Y (KI r.num (Xm bl) k r) p'∧FrP (fun q=>q=B∨rbs p r q) w Y∧(∀ q,rbs p' (KI r.num (Xm bl) k r) q→rbs p r q∨X.1.size+2≤q)) ?_ ?_ ?_ ?_).mono ?_
 ·exact ⟨lrf _,hqc,p,hbx.below hb lB,hg.grow hb,FrP.of_below hb,fun q hq=>Or.inl hq⟩
 ·rintro k Y Z hz ⟨h1,h2,p',x1,g1,f1,s1⟩ hf
  refine ⟨ltr h1 hf.size,(hf.cell (p:=⟨qh,0,none⟩) (by show qh<_;omega) (fun e=>by have h9:X.1.size≤qh:=e.1;omega)).trans h2,p',x1.frP hf (fun e=>by have:=e.1;omega),g1.fr hf (fun q hq e=>?_),f1.trans2 hf (fun q hq e=>by have:=e.1;omega),s1⟩
  rcases s1 q hq with h|h
  ·have:=lt q h;omega
  ·omega
 ·rintro k Y hk ⟨h1,h2,p',x1,g1,f1,s1⟩
  have e:KI r.num (Xm bl) (k+1) r=KI r.num (Xm bl) k r:=if_pos hk
  rw [e]
  exact ⟨h1,h2,p',x1,g1,f1,s1⟩
 ·rintro k Y hk hne hz ⟨h1,h2,p',x1,g1,f1,s1⟩
  have e:KI r.num (Xm bl) (k+1) r=Zo (KI r.num (Xm bl) k r) (toM r.num (Xm bl) k):=if_neg hne
  rw [e]
  have nq:∀ q,rbs p' (KI r.num (Xm bl) k r) q→q≠B∧q≠qh:=fun q hq=>by
   rcases s1 q hq with h|h
   ·exact ⟨hB q h,by have:=lt q h;omega⟩
   ·exact ⟨by omega,by omega⟩
  refine (FC (KI r.num (Xm bl) k r) p' (toM r.num (Xm bl) k) none 0 0 B qh Y x1 (by omega) h2 g1 nq (Na _ _ _ _) (fun h=>absurd rfl h)).mono ?_
  rintro e' Z ⟨rfl,p2,x2,g2,f2,s2,_,_⟩
  have i2:(KI r.num (Xm bl) k r).hn≠0→rbs p' (KI r.num (Xm bl) k r) p'.g2:=fun h0=>⟨2,by omega,Or.inl ⟨Nat.pos_of_ne_zero h0,rfl⟩⟩
  have low:∀ q,q=B∨((KI r.num (Xm bl) k r).hn≠0∧q=p'.g2)→(q<X.1.size∧(q=B∨rbs p r q))∨X.1.size+2≤q:=fun q hq=>by
   rcases hq with h|h
   ·exact Or.inl ⟨by omega,Or.inl h⟩
   ·rcases s1 q (h.2▸i2 h.1) with h3|h3
    ·exact Or.inl ⟨by have:=lt q h3;omega,Or.inr h3⟩
    ·exact Or.inr h3
  refine ⟨rfl,⟨ltr h1 f2.size,(f2.cell (p:=⟨qh,0,none⟩) (by show qh<_;omega) (fun e=>?_)).trans h2,p2,x2,g2,f1.trans2 f2 (fun q hq e=>?_),fun q hq=>?_⟩,f2.mono (fun q hq=>?_)⟩
  ·rcases e with h|h
   ·have h:qh=B:=h
    omega
   ·have h9:qh=p'.g2:=h.2
    exact (nq qh (h9▸i2 h.1)).2 rfl
  ·rcases low q e with h|h
   ·exact h.2
   ·omega
  ·rcases s2 q hq with h|h|h
   ·exact s1 q h
   ·exact absurd rfl h.1
   ·exact Or.inr (by omega)
  ·rcases low q hq with h|h
   ·exact Or.inl h.1
   ·exact Or.inr h
 ·rintro e w' ⟨rfl,h1,h2,p',x1,g1,f1,s1⟩
  exact ⟨rfl,rfl,p',x1,g1,f1,fun q hq=>by
   rcases s1 q hq with h|h
   ·exact Or.inl h
   ·exact Or.inr (by omega)⟩
set_option maxRecDepth 100000 in
theorem Ie (T B:Nat) (r:Rc) (p:RcP) (s:Rc) (ps:RcP) (w:World) (h:TkAt w T B r p s ps) (hn0:0≤r.num) (hn1:r.num≤1000) (ho0:0≤r.of) (ho1:r.of≤1000) :
  Calls Tryz.prog 112 #[.pointer (some ⟨T,0,none⟩)] w (TkR (fun _=>True) T B r p s ps (Nk r) w):=by
 have H:=hid h
 have c11:w.cell? ⟨B,11,none⟩=some (.bool r.ld):=h.bx.cell 11
 clear h
 cases hld:r.ld with
 | true=>
  rw [hld] at c11
  have HE:=hid (show Nk r=r from if_pos (Or.inl hld))
  clear hld
  rw [HE.out]
  go_enter Tryz.func112,Tryz.ntmps112
  go_wp2
  refine EO _ _ _ _ _ _ _ _ _ _ _ _ _ _ _ _ _ _ _ _ _ _ _ _ _ _ _ _ _ _ _ _ _ _ _ _ _ _ _ _ _ _ _ _ _ _ _ _ _ _ _ _ _ _ _ _ _ _ _ _ _ _ _ _ _ _ _ _ _ _ _ _ _ _ _ _ _ _ _ _ _ _ _ _ _ _ _ _ _ _ _ _ _ _ _ _ _ _ _ T B r p w H.out.tx.lt H.out.bx.lt (H.out.tx.cell 0) c11 (H.out.bx.cell 17) (H.out.bx.cell 0) hn0 hn1 _ ?_
  rintro t v3 X ⟨rfl,hb⟩
  have HBX:=hid hb
  clear hb c11
  go_wp2
  exact bodyPost_ret (results_none rfl _ _ _) rfl ⟨rfl,p,H.out.grow HBX.out,FrP.of_below HBX.out,fun q hq=>Or.inl hq,trivial⟩
 | false=>
  rw [hld] at c11
  by_cases hh:r.hd≤4+3*r.num
  ·have HE:=hid (show Nk r=r from if_pos (Or.inr hh))
   have hd:decide (r.hd≤4+3*r.num)=true:=decide_eq_true hh
   clear hld hh
   rw [HE.out]
   go_enter Tryz.func112,Tryz.ntmps112
   go_wp2
   refine I8 _ _ _ _ _ _ _ _ _ _ _ _ _ _ _ _ _ _ _ _ _ _ _ _ _ _ _ _ _ _ _ _ _ _ _ _ _ _ _ _ _ _ _ _ _ _ _ _ _ _ _ _ _ _ _ _ _ _ _ _ _ _ _ _ _ _ _ _ _ _ _ _ _ _ _ _ _ _ _ _ _ _ _ _ _ _ _ _ _ _ _ _ _ _ _ _ _ _ _ T B r p w H.out.tx.lt H.out.bx.lt (H.out.tx.cell 0) c11 (H.out.bx.cell 17) (H.out.bx.cell 0) hn0 hn1 _ ?_
   rintro t v3 X ⟨rfl,hb⟩
   rw [hd]
   have HBX:=hid hb
   clear hb c11 hd
   go_wp2
   exact bodyPost_ret (results_none rfl _ _ _) rfl ⟨rfl,p,H.out.grow HBX.out,FrP.of_below HBX.out,fun q hq=>Or.inl hq,trivial⟩
  ·have HE:=hid (show Nk r=If r (nbR r.dk.pr r.num r.of) from if_neg (fun e=>by rcases e with e|e;rw [hld] at e;cases e;exact hh e))
   have hd:decide (r.hd≤4+3*r.num)=false:=decide_eq_false hh
   clear hld hh
   rw [HE.out]
   have HNM:=hid (EP r (nbR r.dk.pr r.num r.of))
   obtain ⟨b,hbe⟩:∃ b,nbR r.dk.pr r.num r.of=b:=⟨_,rfl⟩
   rw [hbe] at HNM ⊢
   have HBE:=hid hbe
   clear hbe
   go_enter Tryz.func112,Tryz.ntmps112
   go_wp2
   refine I8 _ _ _ _ _ _ _ _ _ _ _ _ _ _ _ _ _ _ _ _ _ _ _ _ _ _ _ _ _ _ _ _ _ _ _ _ _ _ _ _ _ _ _ _ _ _ _ _ _ _ _ _ _ _ _ _ _ _ _ _ _ _ _ _ _ _ _ _ _ _ _ _ _ _ _ _ _ _ _ _ _ _ _ _ _ _ _ _ _ _ _ _ _ _ _ _ _ _ _ T B r p w H.out.tx.lt H.out.bx.lt (H.out.tx.cell 0) c11 (H.out.bx.cell 17) (H.out.bx.cell 0) hn0 hn1 _ ?_
   rintro t v3 X ⟨rfl,hb⟩
   rw [hd]
   have HBX:=hid hb
   have K:=hid (H.out.grow hb)
   have q0:X.cell? ⟨T,0,none⟩=some (.pointer (some ⟨B,0,none⟩)):=K.out.tx.cell 0
   have QD:=hid (Uh r p.A B X K.out.bx)
   clear hb c11 hd
   go_wp2_with (go_at_call 147;go_must (refine QD.out.mono ?_;rintro e w1 ⟨rfl,hx1,hf1⟩;have X1:=hid hx1;have F1:=hid hf1;have q0:w1.cell? ⟨T,0,none⟩=some (.pointer (some ⟨B,0,none⟩)):=(K.out.tx.frP hf1 K.out.ne).cell 0;have q17:w1.cell? ⟨B,17,none⟩=some (.int .i64 r.hd):=hx1.cell 17;have f17:=hx1.free 17;clear hx1 hf1))
   have X2:Hid (Bx (w1.setCell ⟨B,17,none⟩ (.int .i64 0)) B (rcC (XX r) (Yo p none none none 0 0 0).A)):=hid (X1.out.to (X1.out.cell.set (i:=17) (by simp) (.int .i64 0)))
   have F2:Hid (FrP (fun q=>q=B) w (w1.setCell ⟨B,17,none⟩ (.int .i64 0))):=hid (((FrP.of_below HBX.out).trans F1.out).setCell (p:=⟨B,17,none⟩) rfl _)
   obtain ⟨W2,hW2⟩:∃ W2,w1.setCell ⟨B,17,none⟩ (.int .i64 0)=W2:=⟨_,rfl⟩
   rw [hW2] at X2 F2 ⊢
   clear hW2 X1 F1 K QD q0 q17 f17
   have T2:=hid (H.out.tx.frP F2.out H.out.ne)
   have G2:=hid ((H.out.g.fr F2.out (fun k hk e=>(H.out.ap k hk).2.1 e)).wait)
   refine ttlReg3 _ _ _ _ _ _ _ _ _ _ _ _ _ _ _ _ _ _ _ _ _ _ _ _ _ _ _ _ _ _ _ _ _ _ _ _ _ _ _ _ _ _ _ _ _ _ _ _ _ _ _ _ _ _ _ _ _ _ _ _ _ _ _ _ _ _ _ _ _ _ _ _ _ _ _ _ _ _ _ _ _ _ _ _ _ _ _ _ _ _ _ _ _ _ _ _ _ _ _ T B (XX r) (Yo p none none none 0 0 0) W2 T2.out.lt X2.out.lt (T2.out.cell 0) (X2.out.cell 6) (X2.out.cell 0) (X2.out.cell 1) _ ?_
   rintro t3 v3 X3 ⟨rfl,hb3⟩
   rw [show nbR (XX r).dk.pr (XX r).num (XX r).of=b from HBE.out]
   have HB3:=hid hb3
   clear hb3
   have K3:Hid (Bx X3 B (rcC (XX r) (Yo p none none none 0 0 0).A)):=hid (X2.out.below HB3.out X2.out.lt)
   have F3:Hid (FrP (fun q=>q=B) w X3):=hid (F2.out.trans (FrP.of_below HB3.out))
   have G3:=hid (G2.out.grow HB3.out)
   have RB:=hid (show ∀ q,rbs (Yo p none none none 0 0 0) (XX r) q→rbs p r q from fun q hq=>Fc hq)
   have T3:=hid (T2.out.below HB3.out T2.out.lt)
   clear X2 F2 G2 T2 HB3
   by_cases hb0:b=0
   ·subst hb0
    have ET:=hid (show If r 0=XX r from if_pos rfl)
    go_wp2
    refine bodyPost_ret (results_none rfl _ _ _) rfl ?_
    rw [ET.out]
    exact ⟨rfl,Yo p none none none 0 0 0,H.out.next K3.out G3.out (F3.out.mono (fun q hq=>Or.inl hq)) (fun q hq=>Or.inl (RB.out q hq)) rfl,F3.out.mono (fun q hq=>Or.inl hq),fun q hq=>Or.inl (RB.out q hq),trivial⟩
   ·have hz:(b==0)=false:=by simpa using hb0
    have ET:=hid (show If r b=KI r.num (Xm b) r.of.toNat (UR (XX r) b true true true) from if_neg hb0)
    clear hb0
    go_wp2
    refine ttlReg5 _ _ _ _ _ _ _ _ _ _ _ _ _ _ _ _ _ _ _ _ _ _ _ _ _ _ _ _ _ _ _ _ _ _ _ _ _ _ _ _ _ _ _ _ _ _ _ _ _ _ _ _ _ _ _ _ _ _ _ _ _ _ _ _ _ _ _ _ _ _ _ _ _ _ _ _ _ _ _ _ _ _ _ _ _ _ _ _ _ _ _ _ _ _ _ _ _ _ T B b (XX r) (Yo p none none none 0 0 0) X3 T3.out.lt H.out.ne (T3.out.cell 0) K3.out _ ?_
    intro t5 X4 f4 b4
    have B4:=hid b4
    have F4:=hid (F3.out.trans f4)
    have G4:=hid ((G3.out.fr f4 (fun k hk e=>(H.out.ap k (RB.out k hk)).2.1 e)).tri b true true true)
    have T4:=hid (T3.out.frP f4 H.out.ne)
    have HALL:=hid (fun X qh (hb:Below X4.1.size X4 X) (h1:X4.1.size≤qh) (h2:qh<X.1.size) h3=>FD T B (UR (XX r) b true true true) (Yo p none none none 0 0 0) b X4 X qh ho0 ho1 B4.out G4.out (fun k hk=>(H.out.ap k (RB.out k hk)).2.1) hb h1 h2 h3)
    clear f4 b4 K3 F3 G3 T3
    go_wp2
    refine ttlReg6 _ _ _ _ _ _ _ _ _ _ _ _ _ _ _ _ _ _ _ _ _ _ _ _ _ _ _ _ _ _ _ _ _ _ _ _ _ _ _ _ _ _ _ _ _ _ _ _ _ _ _ _ _ _ _ _ _ _ _ _ _ _ _ _ _ _ _ _ _ _ _ _ _ _ _ _ _ _ _ _ _ _ _ _ _ _ _ _ _ _ _ _ _ _ _ _ _ _ T B b (UR (XX r) b true true true) (Yo p none none none 0 0 0) (fun w'=>DoR B (UR (XX r) b true true true) (Yo p none none none 0 0 0) (KI r.num (Xm b) r.of.toNat (UR (XX r) b true true true)) X4 (.returned (.tuple #[])) w') X4 T4.out.lt (T4.out.cell 0) B4.out (fun X qh hb h1 h2 h3=>HALL.out X qh hb h1 h2 h3) _ ?_
    rintro t6 v6 Z hd
    obtain ⟨_,p',x5,g5,f5,s5⟩:=hd
    have rb5:∀ q,rbs p' (KI r.num (Xm b) r.of.toNat (UR (XX r) b true true true)) q→rbs p r q∨w.1.size≤q:=fun q hq=>by
     rcases s5 q hq with h|h
     ·exact Or.inl (RB.out q h)
     ·exact Or.inr (ltr F4.out.size h)
    have fr5:FrP (fun q=>q=B∨rbs p r q) w Z:=(F4.out.mono (fun q hq=>Or.inl hq)).trans2 f5 (fun q hq e=>by
     rcases e with e|e
     ·exact Or.inl e
     ·exact Or.inr (RB.out q e))
    refine bodyPost_end (results_none rfl _ _ _) rfl ?_
    rw [ET.out]
    exact ⟨rfl,p',H.out.next x5 g5 fr5 rb5 (NA _ _ _ _),fr5,rb5,trivial⟩
theorem UO (z:Array Value) (n:Nat):(Builtin.zeroCells z n).toList.length=n*z.size:=by simp [Builtin.zeroCells]
theorem Nv {P:Program} (w:World) (t e ty:TypeId) (z:Value) (ht:P.underlying t=some (.slice e)) (hv:∀ w,(zeroValue e).run P w=.ok z w) (h1:∀ v ∈ z.cells.toList,v.oneCell'=true) (b o n c:Nat) (hn:0<n)
  (hc:∀ j,j<n*z.cells.size→(w.cell? ⟨b,o+j,none⟩).isSome=true) (hf:∀ j,j<n*z.cells.size→w.frozen? ⟨b,o+j,none⟩=false) :
  (Builtin.clear_ #[t] ty #[.slice (some ⟨b,o,none⟩) n c]).run P w=.ok (.tuple #[]) (w.setCells b o (Builtin.zeroCells z.cells n).toList):=by
 have hst:=run_storeCells_cells (P:=P) b o (Builtin.zeroCells z.cells n).toList 0 w (by rw [UO];simpa using hc) (by rw [UO];simpa using hf) (by
  intro v hv'
  have hv2:v ∈ Builtin.zeroCells z.cells n:=by simpa using hv'
  unfold Builtin.zeroCells at hv2
  obtain ⟨i,hi,rfl⟩:=Array.mem_map.1 hv2
  have hi2:i<n*z.cells.size:=by simpa using hi
  have hz:0<z.cells.size:=by
   rcases Nat.eq_zero_or_pos z.cells.size with h|h
   ·rw [h] at hi2;omega
   ·exact h
  have hm:i % z.cells.size<z.cells.size:=Nat.mod_lt _ hz
  rw [getElem!_pos z.cells _ hm]
  exact h1 _ (by simp))
 simp only [Nat.add_zero] at hst
 obtain ⟨m,rfl⟩:∃ m,n=m+1:=⟨n-1,by omega⟩
 simp [Builtin.clear_,run_underlying ht,hv,hst]
theorem FrP.setCells {P:Nat→Prop} {b:Nat} (hp:P b):∀ (vs:List Value) (o:Nat) (a w:World),FrP P a w→FrP P a (w.setCells b o vs)
 | [],_,_,_,h=>h
 | v::r,o,a,_w,h=>FrP.setCells hp r (o+1) a _ (h.setCell (p:=⟨b,o,none⟩) hp v)
def drp (f:ByteArray→Bool) (ws:Nat→ByteArray):Nat→Nat × (Nat→ByteArray)
 | 0=>(0,fun _=>⟨#[]⟩)
 | j+1=>if f (ws j)=true then drp f ws j else ((drp f ws j).1+1,updF (drp f ws j).2 (drp f ws j).1 (ws j))
theorem UZ (f:ByteArray→Bool) (ws:Nat→ByteArray):∀ j,(drp f ws j).1≤j
 | 0=>lrf _
 | j+1=>by
  have:=UZ f ws j
  rw [drp]
  split
  ·omega
  ·show (drp f ws j).1+1≤j+1
   omega
theorem IH (f:ByteArray→Bool) (ws:Nat→ByteArray):∀ j,(∀ i,i<j→f (ws i)=false)→(drp f ws j).1=j∧∀ i,i<j→(drp f ws j).2 i=ws i
 | 0,_=>⟨rfl,fun i hi=>absurd hi (nlz _)⟩
 | j+1,h=>by
  obtain ⟨h1,h2⟩:=IH f ws j (fun i hi=>h i (by omega))
  have e:drp f ws (j+1)=((drp f ws j).1+1,updF (drp f ws j).2 (drp f ws j).1 (ws j)):=if_neg (by rw [h j (by omega)];simp)
  rw [e]
  refine ⟨by show (drp f ws j).1+1=_;rw [h1],fun i hi=>?_⟩
  show updF (drp f ws j).2 (drp f ws j).1 (ws j) i=_
  by_cases ei:i=(drp f ws j).1
  ·rw [ei,Zm,h1]
  ·rw [Zn _ _ ei];exact h2 i (by omega)
theorem StrsOwn.row {w:World} {g:Nat} {ad:Option Addr} {n:Nat} {s:Nat→ByteArray} (h:StrsOwn w g (g+1) ad n s) (hn:0<n):∃ off,ad=some ⟨g,off,none⟩∧∀ i,i<n→w.cell? ⟨g,off+i,none⟩=some (.string (s i))∧w.frozen? ⟨g,off+i,none⟩=false:=by
 obtain ⟨b,off,e1,e2,e3,_⟩:=h 0 hn
 obtain rfl:b=g:=by omega
 refine ⟨off,e1,fun i hi=>?_⟩
 obtain ⟨b',off',h1,_,_,h4,h5⟩:=h i hi
 rw [e1] at h1
 cases h1
 exact ⟨h4,h5⟩
set_option maxRecDepth 100000 in
theorem Ps (f:ByteArray→Bool) (K:Nat) (ad:Option Addr) (n cap:Nat) (ws:Nat→ByteArray) (g:Nat) (w:World) (hl:(n:Int)≤1000000) (ho:StrsOwn w g (g+1) ad n ws) (hgl:0<n→g<w.1.size) (hp:∀ W x,Below w.1.size w W→Calls Tryz.prog 141 #[.string x,.pointer (some ⟨K,0,none⟩)] W fun e W'=>e=.returned (.bool (f x))∧Below W.1.size W W') :
  Calls Tryz.prog 161 #[.slice ad n cap,.func (.func 141) #[] #[.pointer (some ⟨K,0,none⟩)]] w fun e w'=>∃ r:Int,e=.returned (.int .i64 r)∧((r = -1∧∀ j,j<n→f (ws j)=false)∨∃ k:Nat,k<n∧r=k∧f (ws k)=true∧∀ j,j<k→f (ws j)=false)∧Below w.1.size w w':=by
 have HO:=hid ho
 have HP:=hid hp
 have HG:=hid hgl
 clear ho hp hgl
 go_enter Tryz.func161,Tryz.ntmps161
 go_wp2
 go_loopw [5,8] (fun _ i wr=>∃ k:Nat,k≤n∧i=.int .i64 k∧Hid (∀ j,j<k→f (ws j)=false)∧Below w.1.size w wr) (fun _ i _=>n-(intOf i).toNat)
 case atStart=>exact ⟨0,zle _,rfl,hid (fun j hj=>absurd hj (nlz _)),br _ _⟩
 case round=>
  obtain ⟨k,hk,rfl,HN,hb⟩:=hrel
  by_cases hkn:k<n
  ·obtain ⟨off,had,hrow⟩:=HO.out.row (by omega)
   subst had
   have hgw:=HG.out (by omega)
   have c0:=(hb.cell (p:=⟨g,off+k,none⟩) hgw).trans (hrow k hkn).1
   have hcall:=HP.out wr (ws k) hb
   obtain ⟨x,hx⟩:∃ x,ws k=x:=⟨_,rfl⟩
   have HX:=hid hx
   rw [hx] at c0 hcall
   clear hx hrow
   have HB:=hid hb
   clear hb
   cases hpe:f x with
   | true=>
    rw [hpe] at hcall
    have HPE:=hid hpe
    have HCL:=hid hcall
    clear hpe hcall
    go_wp2_with (go_at_call 141;go_must (refine HCL.out.mono ?_;rintro e2 w2 ⟨rfl,hb2⟩;have HB2:=hid hb2;clear hb2))
    go_ret
    exact ⟨_,rfl,Or.inr ⟨k,hkn,rfl,by rw [HX.out];exact HPE.out,HN.out⟩,HB.out.trans (HB2.out.mono HB.out.size)⟩
   | false=>
    rw [hpe] at hcall
    have HPE:=hid hpe
    have HCL:=hid hcall
    clear hpe hcall
    go_wp2_with (go_at_call 141;go_must (refine HCL.out.mono ?_;rintro e2 w2 ⟨rfl,hb2⟩;have HB2:=hid hb2;clear hb2))
    go_roundw
    case rel=>exact ⟨k+1,by omega,by go_num,hid (fun j hj=>by
     rcases Nat.lt_or_ge j k with h|h
     ·exact HN.out j h
     ·obtain rfl:j=k:=by omega
      rw [HX.out];exact HPE.out),HB.out.trans (HB2.out.mono HB.out.size)⟩
    case measure=>simp [intOf];omega
  ·obtain rfl:k=n:=by omega
   have HB:=hid hb
   clear hb
   go_wp2
   go_ret
   exact ⟨_,rfl,Or.inl ⟨rfl,HN.out⟩,HB.out⟩
structure DelS (f:ByteArray→Bool) (ws:Nat→ByteArray) (n g off:Nat) (w:World) (i j:Nat) (wr:World):Prop where
 cnt:i=(drp f ws j).1
 lt:i<j
 jn:j≤n
 gl:g<wr.1.size
 low:∀ t,t<i→wr.cell? ⟨g,off+t,none⟩=some (.string ((drp f ws j).2 t))
 mid:∀ t,t<n→∃ u,wr.cell? ⟨g,off+t,none⟩=some u
 high:∀ t,j≤t→t<n→wr.cell? ⟨g,off+t,none⟩=some (.string (ws t))
 free:∀ t,t<n→wr.frozen? ⟨g,off+t,none⟩=false
 fr:FrP (fun q=>q=g) w wr
theorem DelS.grow {f:ByteArray→Bool} {ws:Nat→ByteArray} {n g off:Nat} {w wr X:World} {i j:Nat} (h:DelS f ws n g off w i j wr) (hb:Below wr.1.size wr X):DelS f ws n g off w i j X:=
 ⟨h.cnt,h.lt,h.jn,ltl h.gl hb.size,fun t ht=>(hb.cell (p:=⟨g,off+t,none⟩) h.gl).trans (h.low t ht),fun t ht=>by obtain ⟨u,hu⟩:=h.mid t ht;exact ⟨u,(hb.cell (p:=⟨g,off+t,none⟩) h.gl).trans hu⟩,fun t h1 h2=>(hb.cell (p:=⟨g,off+t,none⟩) h.gl).trans (h.high t h1 h2),fun t ht=>(hb.frozen (p:=⟨g,off+t,none⟩) h.gl).trans (h.free t ht),h.fr.trans (FrP.of_below hb)⟩
theorem DelS.skip {f:ByteArray→Bool} {ws:Nat→ByteArray} {n g off:Nat} {w wr:World} {i j:Nat} (h:DelS f ws n g off w i j wr) (hj:j<n) (hk:f (ws j)=true):DelS f ws n g off w i (j+1) wr:=by
 have e:drp f ws (j+1)=drp f ws j:=if_pos hk
 exact ⟨by rw [e];exact h.cnt,by have:=h.lt;omega,hj,h.gl,fun t ht=>by rw [e];exact h.low t ht,h.mid,fun t h1 h2=>h.high t (by omega) h2,h.free,h.fr⟩
theorem DelS.keep {f:ByteArray→Bool} {ws:Nat→ByteArray} {n g off:Nat} {w wr:World} {i j:Nat} (h:DelS f ws n g off w i j wr) (hj:j<n) (hk:f (ws j)=false):DelS f ws n g off w (i+1) (j+1) (wr.setCell ⟨g,off+i,none⟩ (.string (ws j))):=by
 have e:drp f ws (j+1)=((drp f ws j).1+1,updF (drp f ws j).2 (drp f ws j).1 (ws j)):=if_neg (by rw [hk];simp)
 have hij:=h.lt
 have hc:=h.cnt
 have same:(wr.setCell ⟨g,off+i,none⟩ (.string (ws j))).cell? ⟨g,off+i,none⟩=some (.string (ws j)):=by
  obtain ⟨u,hu⟩:=h.mid i (by omega)
  exact World.cell?_setCell_same _ _ _ hu
 have other:∀ t,¬t=i→(wr.setCell ⟨g,off+i,none⟩ (.string (ws j))).cell? ⟨g,off+t,none⟩=wr.cell? ⟨g,off+t,none⟩:=fun t ht=>by
  apply World.cell?_setCell_other
  intro e
  have h9:off+i=off+t:=congrArg Addr.off e
  omega
 refine ⟨by rw [e];show i+1=(drp f ws j).1+1;rw [hc],by omega,hj,by rw [World.size_setCell];exact h.gl,fun t ht=>?_,fun t ht=>?_,fun t h1 h2=>?_,fun t ht=>by rw [World.frozen?_setCell];exact h.free t ht,h.fr.setCell (p:=⟨g,off+i,none⟩) rfl _⟩
 ·rw [e]
  show (wr.setCell ⟨g,off+i,none⟩ (.string (ws j))).cell? ⟨g,off+t,none⟩=some (Value.string (updF (drp f ws j).2 (drp f ws j).1 (ws j) t))
  by_cases et:t=i
  ·rw [et,same,←hc,Zm]
  ·rw [other t et,Zn _ _ (by omega)]
   exact h.low t (by omega)
 ·by_cases et:t=i
  ·rw [et];exact ⟨_,same⟩
  ·rw [other t et];exact h.mid t ht
 ·rw [other t (by omega)];exact h.high t (by omega) h2
theorem Tryz.zero9':∀ w,(zeroValue 9).run Tryz.prog w=.ok (.string ByteArray.empty) w:=fun w=>by kernel_rfl
set_option maxRecDepth 100000 in
theorem OP (f:ByteArray→Bool) (K:Nat) (ad:Option Addr) (n cap:Nat) (ws:Nat→ByteArray) (g:Nat) (w:World) (hl:(n:Int)≤1000000) (hcap:n≤cap) (ho:StrsOwn w g (g+1) ad n ws) (hgl:0<n→g<w.1.size) (hp:∀ W x,FrP (fun q=>0<n∧q=g) w W→Calls Tryz.prog 141 #[.string x,.pointer (some ⟨K,0,none⟩)] W fun e W'=>e=.returned (.bool (f x))∧Below W.1.size W W') :
  Calls Tryz.prog 140 #[.slice ad n cap,.func (.func 141) #[] #[.pointer (some ⟨K,0,none⟩)]] w fun e w'=>e=.returned (.slice ad (drp f ws n).1 cap)∧StrsOwn w' g (g+1) ad (drp f ws n).1 (drp f ws n).2∧FrP (fun q=>0<n∧q=g) w w':=by
 have HI:=hid (Ps f K ad n cap ws g w hl ho hgl (fun W x hb=>hp W x (FrP.of_below hb)))
 have HO:=hid ho
 have HP:=hid hp
 have HG:=hid hgl
 clear ho hp hgl
 go_enter Tryz.func140,Tryz.ntmps140
 go_wp2_with fail
 refine HI.out.mono ?_
 rintro e w1 ⟨r,rfl,hfst,hb1⟩
 rcases hfst with ⟨rfl,hall⟩|⟨k,hk,rfl,hkt,hkn⟩
 ·have HD:=hid (IH f ws n hall)
  have HB:=hid hb1
  clear hall hb1
  go_wp2
  go_ret
  have e1:=HD.out.1
  refine ⟨by rw [e1];first|rfl|trivial,fun i hi=>?_,FrP.of_below HB.out⟩
  rw [e1] at hi
  obtain ⟨b,off,h1,h2,h3,h4,h5⟩:=HO.out i hi
  rw [HD.out.2 i hi]
  have hg:=HG.out (by omega)
  obtain rfl:b=g:=by omega
  exact ⟨b,off,h1,h2,h3,(HB.out.cell (p:=⟨b,off+i,none⟩) hg).trans h4,(HB.out.frozen (p:=⟨b,off+i,none⟩) hg).trans h5⟩
 ·obtain ⟨off,had,hrow⟩:=HO.out.row (by omega)
  subst had
  have hg:=HG.out (by omega)
  have hd0:DelS f ws n g off w k (k+1) w1:=by
   have hda:=IH f ws k hkn
   have e:drp f ws (k+1)=drp f ws k:=if_pos hkt
   have ce:=fun t (ht:t<n)=>(hb1.cell (p:=⟨g,off+t,none⟩) hg).trans (hrow t ht).1
   exact ⟨by rw [e];exact hda.1.symm,by omega,by omega,ltl hg hb1.size,fun t ht=>by rw [e,hda.2 t ht];exact ce t (by omega),fun t ht=>⟨_,ce t ht⟩,fun t _ h2=>ce t h2,fun t ht=>(hb1.frozen (p:=⟨g,off+t,none⟩) hg).trans (hrow t ht).2,FrP.of_below hb1⟩
  have HD:=hid hd0
  clear hd0 hkt hkn hb1 hrow HI
  go_wp2
  go_loopw [5,6,7] (fun s5 s6 _ wr=>∃ (i j:Nat),s5=.int .i64 i∧s6=.int .i64 j∧Hid (DelS f ws n g off w i j wr)) (fun _ s6 _ _=>n-(intOf s6).toNat)
  case atStart=>exact ⟨k,k+1,rfl,by go_num,HD⟩
  case round=>
   obtain ⟨i,j,rfl,rfl,DI⟩:=hrel
   have hij:=DI.out.lt
   have hjn:=DI.out.jn
   have hgw:=DI.out.gl
   by_cases hj:j<n
   ·have c0:=DI.out.high j (lrf _) hj
    have HCL:=hid (HP.out wr (ws j) (DI.out.fr.mono (fun q hq=>⟨by omega,hq⟩)))
    obtain ⟨x,hx⟩:∃ x,ws j=x:=⟨_,rfl⟩
    have HX:=hid hx
    rw [hx] at c0 HCL
    clear hx
    cases hpe:f x with
    | true=>
     rw [hpe] at HCL
     have HS:=hid (DI.out.skip hj (by rw [HX.out];exact hpe))
     clear hpe
     go_wp2_with (go_at_call 141;go_must (refine HCL.out.mono ?_;rintro e2 w2 ⟨rfl,hb2⟩;have HB2:=hid hb2;clear hb2))
     go_roundw
     case rel=>(repeat apply Exists.intro);exact ⟨⟨i,j+1,rfl,by go_num,hid (HS.out.grow HB2.out)⟩,rfl⟩
     case measure=>simp [intOf];omega
    | false=>
     rw [hpe] at HCL
     have HPE:=hid hpe
     clear hpe
     go_wp2_with (go_at_call 141;go_must (refine HCL.out.mono ?_;rintro e2 w2 ⟨rfl,hb2⟩;have D2:=hid (DI.out.grow hb2);obtain ⟨u,hu⟩:=D2.out.mid i (by omega);have hfz:=D2.out.free i (by omega);have hg2:=D2.out.gl;clear hb2))
     go_roundw
     case rel=>
      have hk:=D2.out.keep hj (by rw [HX.out];exact HPE.out)
      rw [HX.out] at hk
      (repeat apply Exists.intro)
      exact ⟨⟨i+1,j+1,by go_num,by go_num,hid hk⟩,rfl⟩
     case measure=>simp [intOf];omega
   ·obtain rfl:j=n:=by omega
    have hcl:∀ ty,(Builtin.clear_ #[26] ty #[.slice (some ⟨g,off+i,none⟩) (j-i) (cap-i)]).run Tryz.prog wr=.ok (.tuple #[]) (wr.setCells g (off+i) (Builtin.zeroCells #[.string ByteArray.empty] (j-i)).toList):=
     fun ty=>Nv wr 26 9 ty _ Tryz.underlying26 Tryz.zero9' (by decide) g (off+i) _ _ (by omega) (fun t ht=>by
      obtain ⟨v,hv⟩:=DI.out.mid (i+t) (by simp [Value.cells] at ht;omega)
      rw [Nat.add_assoc,hv];rfl) (fun t ht=>by rw [Nat.add_assoc];exact DI.out.free (i+t) (by simp [Value.cells] at ht;omega))
    have q1:¬(cap=i):=by omega
    go_wp2
    go_ret
    have hc:=DI.out.cnt
    refine ⟨by rw [←hc];rfl,fun t ht=>?_,(FrP.setCells (P:=fun q=>q=g) rfl _ _ _ _ DI.out.fr).mono (fun q e=>⟨by omega,e⟩)⟩
    rw [←hc] at ht
    exact ⟨g,off,rfl,lrf _,Nat.lt_succ_self _,(World.cell?_setCells_out g _ (off+i) wr ⟨g,off+t,none⟩ (fun _ _=>Or.inl (by show off+t<off+i;omega))).trans (DI.out.low t ht),by rw [World.frozen?_setCells];exact DI.out.free t (by omega)⟩
set_option maxRecDepth 100000 in
theorem clo_any (n:Nat) (x:Nat→Sl) (ad:Option Addr) (cap:Nat) (K:Nat) (a:ByteArray) (w:World) (hl:(n:Int)≤1048576) (hk:w.cell? ⟨K,0,none⟩=some (.slice ad n cap)) (hc:SlsIn w 0 w.1.size ad n x) :
  Calls Tryz.prog 141 #[.string a,.pointer (some ⟨K,0,none⟩)] w fun e w'=>e=.returned (.bool (hasB n (fun i=>(x i).text) a))∧Below w.1.size w w':=by
 have HT:=hid (KK n x ad cap a w 0 w.1.size (lrf _) hl hc)
 clear hc
 go_enter Tryz.func141,Tryz.ntmps141
 go_wp2_with (go_at_call 129;go_must (refine HT.out.mono ?_;rintro e w1 ⟨rfl,hb1⟩;have HB1:=hid hb1;clear hb1))
 go_ret
 exact ⟨rfl,HB1.out⟩
def U9 (T B K:Nat) (r:Rc) (p:RcP) (dn:Nat) (i:Nat) (v:Value):Prop:=
 match i with
 | 0=>v=.pointer (some ⟨T,0,none⟩)
 | 1=>v=.pointer (some ⟨T,0,none⟩)
 | 2=>v=.pointer (some ⟨T,0,none⟩)
 | 3=>v=.pointer (some ⟨B,0,none⟩)
 | 4=>v=.pointer (some ⟨T,0,none⟩)
 | 5=>v=.pointer (some ⟨T,0,none⟩)
 | 6=>v=.pointer (some ⟨T,0,none⟩)
 | 7=>v=.pointer (some ⟨B,0,none⟩)
 | 8=>v=.pointer (some ⟨B,0,none⟩)
 | 9=>v=.pointer (some ⟨B,10,none⟩)
 | 10=>v=.slice p.A.wa r.wn p.A.wc
 | 11=>v=.func (.func 141) #[] #[.pointer (some ⟨K,0,none⟩)]
 | 12=>v=.slice p.A.wa dn p.A.wc
 | 13=>v=.pointer (some ⟨B,0,none⟩)
 | 14=>v=.pointer (some ⟨B,10,none⟩)
 | _=>True
abbrev wsR (r:Rc) (dn:Nat) (ds:Nat→ByteArray):Rc:={ r with wn:=dn,ws:=ds }
structure Dkw (T B K:Nat) (r:Rc) (p:RcP) (dn:Nat) (ds:Nat→ByteArray) (W:World) (f:Nat→Bool) (t:Nat→Value) (X:World):Prop where
 fr:FrP (fun q=>q=B∨(0<r.wn∧q=p.g3)) W X
 bx:Bx X B (rcC (if f 15=true then wsR r dn ds else r) p.A)
 ow:f 12=true→StrsOwn X p.g3 (p.g3+1) p.A.wa dn ds
 no:f 12=false→Below W.1.size W X
 vl:∀ i,f i=true→U9 T B K r p dn i (t i)
theorem Dkw.val {T B K:Nat} {r:Rc} {p:RcP} {dn:Nat} {ds:Nat→ByteArray} {W X:World} {f:Nat→Bool} {t:Nat→Value} (h:Dkw T B K r p dn ds W f t X) {i:Nat} {v:Value} (hv:U9 T B K r p dn i v) (g:Nat→Bool) (g2:∀ j,¬j=i→g j=f j):∀ j,g j=true→U9 T B K r p dn j (updT t i v j):=fun j hj=>by
 by_cases e:j=i
 ·subst e;rw [YA];exact hv
 ·rw [ZO e];exact h.vl j ((g2 j e).symm.trans hj)
theorem Dkw.step {T B K:Nat} {r:Rc} {p:RcP} {dn:Nat} {ds:Nat→ByteArray} {W X:World} {f:Nat→Bool} {t:Nat→Value} (h:Dkw T B K r p dn ds W f t X) {i:Nat} {v:Value} (hv:U9 T B K r p dn i v) (h1:¬12=i) (h2:¬15=i) (g:Nat→Bool) (_:g i=true) (g2:∀ j,¬j=i→g j=f j):Dkw T B K r p dn ds W g (updT t i v) X:=
 ⟨h.fr,by rw [g2 15 h2];exact h.bx,fun e=>h.ow ((g2 12 h1).symm.trans e),fun e=>h.no ((g2 12 h1).symm.trans e),h.val hv g g2⟩
set_option maxRecDepth 100000 in
theorem dkwReg1 (p1 p3 p4 p5 p6 p7 p8 p9 ze:Value) (w0 w1 w2 w3 w4 w5 w6 w7 w8 w9 w10 w11 w12 w13 w14:Value) (T B K:Nat) (r:Rc) (p:RcP) (dn:Nat) (ds:Nat→ByteArray) (W:World) (hT:T<W.1.size) (hTB:¬(T=B∨(0<r.wn∧T=p.g3))) (hBg:¬(0<r.wn∧B=p.g3)) (cT0:W.cell? ⟨T,0,none⟩=some (.pointer (some ⟨B,0,none⟩))) (hB:Bx W B (rcC r p.A)) (hgl:0<r.wn→p.g3<W.1.size) (hdn:dn≤r.wn) (hC:∀ X,Below W.1.size W X→Calls Tryz.prog 140 #[.slice p.A.wa r.wn p.A.wc,.func (.func 141) #[] #[.pointer (some ⟨K,0,none⟩)]] X fun e w'=>e=.returned (.slice p.A.wa dn p.A.wc)∧StrsOwn w' p.g3 (p.g3+1) p.A.wa dn ds∧FrP (fun q=>0<r.wn∧q=p.g3) X w') (Q:Exit→Act→World→Prop) (hQ:∀ (t:Nat→Value) X,FrP (fun q=>q=B∨(0<r.wn∧q=p.g3)) W X→Bx X B (rcC (wsR r dn ds) p.A)→StrsOwn X p.g3 (p.g3+1) p.A.wa dn ds→Q .normal ⟨#[.pointer (some ⟨T,0,none⟩),p1,.pointer (some ⟨K,0,none⟩),p3,p4,p5,p6,p7,p8,p9,ze,t 0,t 1,t 2,t 3,t 4,t 5,t 6,t 7,t 8,t 9,t 10,t 11,t 12,t 13,t 14],[]⟩ X) :
  Code.wp Tryz.prog (Code.region 1 #[⟨some 11,.move (.tmp 0),125,Qb,#[],none⟩,⟨some 12,.nilCheck (.tmp 11),0,Qb,#[⟨0,.data⟩],none⟩,⟨some 13,.fieldAddr 122 (.tmp 12) 0,0,Qb,#[⟨1,.data⟩],none⟩,⟨some 14,.load 81 (.tmp 13),81,Qb,#[⟨2,.data⟩],none⟩,⟨some 15,.move (.tmp 0),125,Qb,#[],none⟩,⟨some 16,.nilCheck (.tmp 15),0,Qb,#[⟨4,.data⟩],none⟩,⟨some 17,.fieldAddr 122 (.tmp 16) 0,0,Qb,#[⟨5,.data⟩],none⟩,⟨some 18,.load 81 (.tmp 17),81,Qb,#[⟨6,.data⟩],none⟩,⟨some 19,.nilCheck (.tmp 18),0,Qb,#[⟨7,.data⟩],none⟩,⟨some 20,.fieldAddr 38 (.tmp 19) 6,0,Qb,#[⟨8,.data⟩],none⟩,⟨some 21,.load 26 (.tmp 20),26,Qb,#[⟨9,.data⟩],none⟩,⟨some 22,.makeFunc (Fn.func 141) #[] #[.tmp 2],136,Qb,#[],none⟩,⟨some 23,.call ⟨.value (.func 140),#[.tmp 21,.tmp 22],#[26,136]⟩,26,Qb,#[⟨10,.data⟩,⟨11,.data⟩],none⟩,⟨some 24,.nilCheck (.tmp 14),0,Qb,#[⟨3,.data⟩,⟨0,.phase⟩,⟨1,.phase⟩,⟨2,.phase⟩,⟨3,.phase⟩,⟨4,.phase⟩,⟨5,.phase⟩,⟨6,.phase⟩,⟨7,.phase⟩,⟨8,.phase⟩,⟨9,.phase⟩,⟨10,.phase⟩,⟨11,.phase⟩,⟨12,.phase⟩],none⟩,⟨some 25,.fieldAddr 38 (.tmp 24) 6,0,Qb,#[⟨13,.data⟩,⟨0,.phase⟩,⟨1,.phase⟩,⟨2,.phase⟩,⟨3,.phase⟩,⟨4,.phase⟩,⟨5,.phase⟩,⟨6,.phase⟩,⟨7,.phase⟩,⟨8,.phase⟩,⟨9,.phase⟩,⟨10,.phase⟩,⟨11,.phase⟩,⟨12,.phase⟩],none⟩,⟨none,.store 26 (.tmp 25) (.tmp 23),0,Qb,#[⟨14,.data⟩,⟨12,.data⟩,⟨12,.chain⟩,⟨0,.phase⟩,⟨1,.phase⟩,⟨2,.phase⟩,⟨3,.phase⟩,⟨4,.phase⟩,⟨5,.phase⟩,⟨6,.phase⟩,⟨7,.phase⟩,⟨8,.phase⟩,⟨9,.phase⟩,⟨10,.phase⟩,⟨11,.phase⟩,⟨12,.phase⟩],none⟩] true) Q ⟨#[.pointer (some ⟨T,0,none⟩),p1,.pointer (some ⟨K,0,none⟩),p3,p4,p5,p6,p7,p8,p9,ze,w0,w1,w2,w3,w4,w5,w6,w7,w8,w9,w10,w11,w12,w13,w14],[]⟩ W:=by
 refine Ol (by kernel_rfl) 16 (fun t:Nat→Value=>#[.pointer (some ⟨T,0,none⟩),p1,.pointer (some ⟨K,0,none⟩),p3,p4,p5,p6,p7,p8,p9,ze,t 0,t 1,t 2,t 3,t 4,t 5,t 6,t 7,t 8,t 9,t 10,t 11,t 12,t 13,t 14]) (fun i=>match i with|0=>w0|1=>w1|2=>w2|3=>w3|4=>w4|5=>w5|6=>w6|7=>w7|8=>w8|9=>w9|10=>w10|11=>w11|12=>w12|13=>w13|_=>w14) (Dkw T B K r p dn ds W) (by kernel_rfl) (by kernel_rfl) rfl (fun f hf=>⟨FrP.of_below (br _ _).drew,by rw [hf];exact hB.below (B:=W.1.size) (br _ _).drew hB.lt,fun e=>(by rw [hf] at e;cases e),fun _=>(br _ _).drew,fun i hi=>by rw [hf] at hi;cases hi⟩) ?_ (fun f t X hf h=>hQ t X h.fr (by have:=h.bx;rw [hf 15 (by omega)] at this;exact this) (h.ow (hf 12 (by omega))))
 intro i hi f t X K' hI hfi hw hcl hK
 have cT:X.cell? ⟨T,0,none⟩=some (.pointer (some ⟨B,0,none⟩)):=(hI.fr.cell (p:=⟨T,0,none⟩) hT hTB).trans cT0
 rcases (show i=0∨i=1∨i=2∨i=3∨i=4∨i=5∨i=6∨i=7∨i=8∨i=9∨i=10∨i=11∨i=12∨i=13∨i=14∨i=15 by omega) with rfl|rfl|rfl|rfl|rfl|rfl|rfl|rfl|rfl|rfl|rfl|rfl|rfl|rfl|rfl|rfl
 ·have h:=hK (.pointer (some ⟨T,0,none⟩)) X (hI.step (i:=0) rfl (by omega) (by omega))
  refine Zi rfl rfl ?_
  clear hK hw hfi hI hC hcl
  go_simp
  simpa [updT] using h
 ·have e0:t 0=.pointer (some ⟨T,0,none⟩):=hI.vl 0 (hw 0 (Wt rfl))
  have h:=hK (.pointer (some ⟨T,0,none⟩)) X (hI.step (i:=1) rfl (by omega) (by omega))
  refine Zi rfl rfl ?_
  clear hK hw hfi hI hC hcl
  simp only [e0]
  go_simp
  simpa [updT,e0] using h
 ·have e1:t 1=.pointer (some ⟨T,0,none⟩):=hI.vl 1 (hw 1 (Wt rfl))
  have h:=hK (.pointer (some ⟨T,0,none⟩)) X (hI.step (i:=2) rfl (by omega) (by omega))
  refine Zi rfl rfl ?_
  clear hK hw hfi hI hC hcl
  simp only [e1]
  go_simp
  simpa [updT,e1] using h
 ·have e2:t 2=.pointer (some ⟨T,0,none⟩):=hI.vl 2 (hw 2 (Wt rfl))
  have h:=hK (.pointer (some ⟨B,0,none⟩)) X (hI.step (i:=3) rfl (by omega) (by omega))
  refine Zi rfl rfl ?_
  clear hK hw hfi hI hC hcl
  simp only [e2]
  go_simp
  simpa [updT,e2] using h
 ·have h:=hK (.pointer (some ⟨T,0,none⟩)) X (hI.step (i:=4) rfl (by omega) (by omega))
  refine Zi rfl rfl ?_
  clear hK hw hfi hI hC hcl
  go_simp
  simpa [updT] using h
 ·have e4:t 4=.pointer (some ⟨T,0,none⟩):=hI.vl 4 (hw 4 (Wt rfl))
  have h:=hK (.pointer (some ⟨T,0,none⟩)) X (hI.step (i:=5) rfl (by omega) (by omega))
  refine Zi rfl rfl ?_
  clear hK hw hfi hI hC hcl
  simp only [e4]
  go_simp
  simpa [updT,e4] using h
 ·have e5:t 5=.pointer (some ⟨T,0,none⟩):=hI.vl 5 (hw 5 (Wt rfl))
  have h:=hK (.pointer (some ⟨T,0,none⟩)) X (hI.step (i:=6) rfl (by omega) (by omega))
  refine Zi rfl rfl ?_
  clear hK hw hfi hI hC hcl
  simp only [e5]
  go_simp
  simpa [updT,e5] using h
 ·have e6:t 6=.pointer (some ⟨T,0,none⟩):=hI.vl 6 (hw 6 (Wt rfl))
  have h:=hK (.pointer (some ⟨B,0,none⟩)) X (hI.step (i:=7) rfl (by omega) (by omega))
  refine Zi rfl rfl ?_
  clear hK hw hfi hI hC hcl
  simp only [e6]
  go_simp
  simpa [updT,e6] using h
 ·have e7:t 7=.pointer (some ⟨B,0,none⟩):=hI.vl 7 (hw 7 (Wt rfl))
  have h:=hK (.pointer (some ⟨B,0,none⟩)) X (hI.step (i:=8) rfl (by omega) (by omega))
  refine Zi rfl rfl ?_
  clear hK hw hfi hI hC hcl
  simp only [e7]
  go_simp
  simpa [updT,e7] using h
 ·have e8:t 8=.pointer (some ⟨B,0,none⟩):=hI.vl 8 (hw 8 (Wt rfl))
  have h:=hK (.pointer (some ⟨B,10,none⟩)) X (hI.step (i:=9) rfl (by omega) (by omega))
  refine Zi rfl rfl ?_
  clear hK hw hfi hI hC hcl
  simp only [e8]
  go_simp
  simpa [updT,e8] using h
 ·have e9:t 9=.pointer (some ⟨B,10,none⟩):=hI.vl 9 (hw 9 (Wt rfl))
  have f15:f 15=false:=by
   cases h15:f 15
   ·rfl
   ·exact absurd (hcl 15 10 ⟨_,rfl,⟨10,.phase⟩,by simp,rfl,rfl⟩ h15) (by rw [hfi];simp)
  have c10:X.cell? ⟨B,10,none⟩=some (.slice p.A.wa r.wn p.A.wc):=by have hx:=hI.bx;rw [f15] at hx;exact hx.cell 10
  have h:=hK (.slice p.A.wa r.wn p.A.wc) X (hI.step (i:=10) rfl (by omega) (by omega))
  refine Zi rfl rfl ?_
  clear hK hw hfi hI hC hcl
  simp only [e9]
  go_simp
  simpa [updT,e9] using h
 ·have h:=hK (.func (.func 141) #[] #[.pointer (some ⟨K,0,none⟩)]) X (hI.step (i:=11) rfl (by omega) (by omega))
  refine Zi rfl rfl ?_
  clear hK hw hfi hI hC hcl
  go_simp
  simpa [updT] using h
 ·have e10:t 10=.slice p.A.wa r.wn p.A.wc:=hI.vl 10 (hw 10 (Wt rfl))
  have e11:t 11=.func (.func 141) #[] #[.pointer (some ⟨K,0,none⟩)]:=hI.vl 11 (hw 11 (Wt rfl))
  have hno:=hI.no hfi
  have HC:=hid (hC X hno)
  have f15:f 15=false:=by
   cases h15:f 15
   ·rfl
   ·exact absurd (hcl 15 12 (Wt rfl) h15) (by rw [hfi];simp)
  have hb0:=hI.bx
  rw [f15] at hb0
  have hv:=hI
  have HK:=hid hK
  refine Zi rfl rfl ?_
  clear hK hw hC hcl
  simp only [e10,e11]
  go_simp
  go_at_call 140
  refine HC.out.mono ?_
  rintro e Y ⟨rfl,ho,hf⟩
  have h:=HK.out (.slice p.A.wa dn p.A.wc) Y (fun g g1 g2=>⟨hv.fr.trans (hf.mono (fun q hq=>Or.inr hq)),by rw [g2 15 (by omega),f15];exact hb0.frP hf hBg,fun _=>ho,fun e=>(by rw [g1] at e;cases e),hv.val (i:=12) rfl g g2⟩)
  simpa [updT,e10,e11] using h
 ·have e3:t 3=.pointer (some ⟨B,0,none⟩):=hI.vl 3 (hw 3 (Wt rfl))
  have h:=hK (.pointer (some ⟨B,0,none⟩)) X (hI.step (i:=13) rfl (by omega) (by omega))
  refine Zi rfl rfl ?_
  clear hK hw hfi hI hC hcl
  simp only [e3]
  go_simp
  simpa [updT,e3] using h
 ·have e13:t 13=.pointer (some ⟨B,0,none⟩):=hI.vl 13 (hw 13 (Wt rfl))
  have h:=hK (.pointer (some ⟨B,10,none⟩)) X (hI.step (i:=14) rfl (by omega) (by omega))
  refine Zi rfl rfl ?_
  clear hK hw hfi hI hC hcl
  simp only [e13]
  go_simp
  simpa [updT,e13] using h
 ·have e14:t 14=.pointer (some ⟨B,10,none⟩):=hI.vl 14 (hw 14 (Wt rfl))
  have e12:t 12=.slice p.A.wa dn p.A.wc:=hI.vl 12 (hw 12 (Wt rfl))
  have h12:f 12=true:=hw 12 (Wt rfl)
  have hb0:=hI.bx
  rw [hfi] at hb0
  have c10:X.cell? ⟨B,10,none⟩=some (.slice p.A.wa r.wn p.A.wc):=hb0.cell 10
  have z10:=hb0.free 10
  have ho:=hI.ow h12
  have hlB:=hb0.lt
  have FB:=(FrP.refl (fun q=>q=B) X).setCell (p:=⟨B,10,none⟩) rfl (.slice p.A.wa dn p.A.wc)
  have h:=hK (.tuple #[]) (X.setCell ⟨B,10,none⟩ (.slice p.A.wa dn p.A.wc)) (fun g g1 g2=>⟨hI.fr.setCell (p:=⟨B,10,none⟩) (Or.inl rfl) _,by rw [g1];exact hb0.to (hb0.cell.set (i:=10) (by simp) _),fun _=>ho.frP FB (fun h0=>⟨fun e=>hBg ⟨by omega,e.symm⟩,ltl (hgl (by omega)) hI.fr.size⟩),fun e=>(by rw [g2 12 (by omega),h12] at e;cases e),hI.val (i:=15) (v:=.tuple #[]) trivial g g2⟩)
  refine Zi rfl rfl ?_
  clear hK hw hC hI hcl
  simp only [e14,e12]
  go_simp
  simpa [updT,e14,e12] using h
def Uw (r:Rc):Rc:=wsR r (drp (hasB r.dk.kn.toNat (fun i=>(r.dk.s i).text)) r.ws r.wn).1 (drp (hasB r.dk.kn.toNat (fun i=>(r.dk.s i).text)) r.ws r.wn).2
theorem Oo {p:RcP} {r:Rc} {dn:Nat} {ds:Nat→ByteArray} (hd:dn≤r.wn) {j k:Nat} (hj:j<7) (h:rb p (wsR r dn ds) j k):rb p r j k:=by
 rcases (show j=0∨j=1∨j=2∨j=3∨j=4∨j=5∨j=6 by omega) with rfl|rfl|rfl|rfl|rfl|rfl|rfl
 ·exact h
 ·exact h
 ·exact h
 ·have h0:dn≠0:=h.1
  exact ⟨by omega,h.2⟩
 ·exact h
 ·exact h
 ·exact h
theorem RcG.ws {w:World} {r:Rc} {p:RcP} (h:RcG w r p) {w':World} {P:Nat→Prop} (hf:FrP P w w') (nP:∀ j k,j<7→¬j=3→rb p r j k→¬P k) {dn:Nat} {ds:Nat→ByteArray} (hd:dn≤r.wn) (ho:StrsOwn w' p.g3 (p.g3+1) p.A.wa dn ds):RcG w' (wsR r dn ds) p:=by
 refine ⟨⟨?_,?_,?_,ho,?_,?_,?_,fun k ⟨j,hj,hk⟩=>?_,fun i j k hi hj h1 h2=>h.at_.ap i j k hi hj (Oo hd hi h1) (Oo hd hj h2)⟩,⟨h.rm.dl,h.rm.d0,fun h0=>Ye (h.rm.dr h0) hf (nP 1 _ (by omega) (by omega) ⟨h0,rfl⟩),h.rm.hl,h.rm.h0,fun h0=>Ye (h.rm.hr h0) hf (nP 2 _ (by omega) (by omega) (Or.inl ⟨Nat.pos_of_ne_zero h0,rfl⟩))⟩⟩
 ·exact h.at_.o0.frP hf (fun h0=>⟨nP 0 _ (by omega) (by omega) ⟨h0,rfl⟩,Zr h.at_ (j:=0) (by omega) ⟨h0,rfl⟩⟩)
 ·exact h.at_.o1.frP hf (fun h0=>⟨nP 1 _ (by omega) (by omega) ⟨h0,rfl⟩,Zr h.at_ (j:=1) (by omega) ⟨h0,rfl⟩⟩)
 ·exact h.at_.o2.fr hf (fun k hk=>nP 2 k (by omega) (by omega) hk)
 ·exact h.at_.o4.frP hf (fun h0=>⟨nP 4 _ (by omega) (by omega) ⟨h0,rfl⟩,Zr h.at_ (j:=4) (by omega) ⟨h0,rfl⟩⟩)
 ·exact h.at_.o5.frP hf (fun h0=>⟨nP 5 _ (by omega) (by omega) ⟨h0,rfl⟩,Zr h.at_ (j:=5) (by omega) ⟨h0,rfl⟩⟩)
 ·exact h.at_.o6.fr hf (fun k hk=>nP 6 k (by omega) (by omega) hk)
 ·exact ltl (h.at_.lt k ⟨j,hj,Oo hd hj hk⟩) hf.size
set_option maxRecDepth 100000 in
theorem II (T B:Nat) (r:Rc) (p:RcP) (s:Rc) (ps:RcP) (w:World) (h:TkAt w T B r p s ps) (hk0:0≤r.dk.kn) (hk1:r.dk.kn≤r.dk.n) (hdn:r.dk.n≤60) (hwn:r.wn≤1000) (hwc:r.wn≤p.A.wc) (hda:r.dk.n=0→p.A.da=none) :
  Calls Tryz.prog 108 #[.pointer (some ⟨T,0,none⟩)] w fun e w'=>e=.returned (.tuple #[])∧TkAt w' T B (Uw r) p s ps∧FrP (fun q=>q=B∨rbs p r q) w w':=by
 have H:=hid h
 obtain ⟨q0,q1,q2,q3,q4,q5,q6,q7,q8,q9,q10,q11,q12,q13,q14,q15,q16,q17⟩:=Ze h.bx.cell
 have q0:w.cell? ⟨T,0,none⟩=some (.pointer (some ⟨B,0,none⟩)):=h.tx.cell 0
 have KN:=hid (Ez r.dk p.A.da p.A.dc w hk0 hk1 h.g.rm.dl (by
  rcases Nat.eq_zero_or_pos r.dk.n with e|e
  ·exact ⟨0,Or.inr ⟨hda e,e,h.g.rm.d0 e⟩⟩
  ·exact ⟨p.g1,Or.inl (h.g.at_.o1.addr e)⟩))
 clear h hda q1 q2 q3 q4 q5 q9 q10 q11 q12 q13 q14 q15 q16 q17
 go_enter Tryz.func108,Tryz.ntmps108
 go_wp2_with (go_at_call 130;go_must (refine KN.out.mono ?_;rintro e w1 ⟨cap',rfl,hb1⟩;have HB1:=hid hb1;clear hb1 q0 q6 q7 q8))
 have hz1:=HB1.out.size
 have HBW:Hid (Below w.1.size w (w1.alloc (.cells #[.slice p.A.da r.dk.kn.toNat cap'] 32))):=hid (HB1.out.alloc hz1 _)
 have KC:Hid ((w1.alloc (.cells #[.slice p.A.da r.dk.kn.toNat cap'] 32)).cell? ⟨w1.1.size,0,none⟩=some (.slice p.A.da r.dk.kn.toNat cap')):=hid (by simp)
 have hKl:w1.1.size<(w1.alloc (.cells #[.slice p.A.da r.dk.kn.toNat cap'] 32)).1.size:=by simp
 obtain ⟨W,hW⟩:∃ W,w1.alloc (.cells #[.slice p.A.da r.dk.kn.toNat cap'] 32)=W:=⟨_,rfl⟩
 rw [hW] at HBW KC hKl ⊢
 clear hW q0 KN
 have KW:=hid (H.out.grow HBW.out)
 have lt0:=H.out.g.at_.lt
 have r3:0<r.wn→rb p r 3 p.g3:=fun h0=>⟨by omega,rfl⟩
 have nB:¬(0<r.wn∧B=p.g3):=fun e=>(H.out.ap p.g3 ⟨3,by omega,r3 e.1⟩).2.1 e.2.symm
 have nT:¬(T=B∨(0<r.wn∧T=p.g3)):=fun e=>by
  rcases e with e|e
  ·exact H.out.ne e
  ·exact (H.out.ap p.g3 ⟨3,by omega,r3 e.1⟩).1 e.2.symm
 have C:=hid (fun X (hb:Below W.1.size W X)=>OP (hasB r.dk.kn.toNat (fun i=>(r.dk.s i).text)) w1.1.size p.A.wa r.wn p.A.wc r.ws p.g3 X (by omega) hwc (KW.out.g.grow hb).at_.o3 (fun h0=>Zr (KW.out.g.grow hb).at_ (j:=3) (by omega) ⟨by omega,rfl⟩) (fun V x hf=>by
  have zx:=hb.size
  have kc:V.cell? ⟨w1.1.size,0,none⟩=some (.slice p.A.da r.dk.kn.toNat cap'):=(hf.cell (p:=⟨w1.1.size,0,none⟩) (by show w1.1.size<_;omega) (fun e=>by
   have h9:w1.1.size=p.g3:=e.2
   have:=lt0 p.g3 ⟨3,by omega,r3 e.1⟩
   omega)).trans ((hb.cell (p:=⟨w1.1.size,0,none⟩) hKl).trans KC.out)
  have o1:=(KW.out.g.grow hb).at_.o1.frP hf (fun h0=>⟨fun e=>by
   have:=H.out.g.at_.ap 1 3 p.g1 (by omega) (by omega) ⟨h0,rfl⟩ (e.2▸r3 e.1)
   omega,Zr (KW.out.g.grow hb).at_ (j:=1) (by omega) ⟨h0,rfl⟩⟩)
  have i1:=o1.isIn (lo:=0) (hi:=V.1.size) (fun h0=>⟨zle _,ltl (Zr (KW.out.g.grow hb).at_ (j:=1) (by omega) ⟨h0,rfl⟩) hf.size⟩)
  exact clo_any r.dk.kn.toNat r.dk.s p.A.da cap' w1.1.size x V (by omega) kc (fun i hi=>i1 i (by omega))))
 refine dkwReg1 _ _ _ _ _ _ _ _ _ _ _ _ _ _ _ _ _ _ _ _ _ _ _ _ T B w1.1.size r p (drp (hasB r.dk.kn.toNat (fun i=>(r.dk.s i).text)) r.ws r.wn).1 (drp (hasB r.dk.kn.toNat (fun i=>(r.dk.s i).text)) r.ws r.wn).2 W KW.out.tx.lt nT nB (KW.out.tx.cell 0) KW.out.bx (fun h0=>Zr KW.out.g.at_ (j:=3) (by omega) ⟨by omega,rfl⟩) (UZ _ _ _) C.out _ ?_
 intro t X fx bx ox
 have GX:RcG X (Uw r) p:=KW.out.g.ws fx (fun j k hj h3 hk e=>by
  rcases e with e|e
  ·exact (H.out.ap k ⟨j,hj,hk⟩).2.1 e
  ·exact h3 (H.out.g.at_.ap j 3 k hj (by omega) hk (e.2▸r3 e.1))) (UZ _ _ _) ox
 have FX:FrP (fun q=>q=B∨rbs p r q) w X:=(FrP.of_below HBW.out).trans (fx.mono (fun q hq=>by
  rcases hq with e|e
  ·exact Or.inl e
  ·exact Or.inr ⟨3,by omega,e.2▸r3 e.1⟩))
 exact bodyPost_end (results_none rfl _ _ _) rfl ⟨rfl,H.out.next bx GX FX (fun q ⟨j,hj,hk⟩=>Or.inl ⟨j,hj,Oo (UZ _ _ _) hj hk⟩) rfl,FX⟩
set_option maxRecDepth 100000 in
theorem Od (T B:Nat) (r:Rc) (p:RcP) (s:Rc) (ps:RcP) (w:World) (h:TkAt w T B r p s ps) (hrm:AkRm w r p) (hAC:∀ i,i<r.an→p.AC i=(r.as_ i).n) (hw:AckW r) (hn:1≤r.num∧r.num≤10) (hsn:r.sf.n≤60) :
  Calls Tryz.prog 143 #[.pointer (some ⟨T,0,none⟩)] w (TkR (fun _=>True) T B r p s ps (Xs r r.sf.n) w):=by
 have H:=hid h
 have HRM:=hid hrm
 have HAC:=hid hAC
 have HW:=hid (fun j hj=>hw.tws hn j hj)
 have q0:w.cell? ⟨T,0,none⟩=some (.pointer (some ⟨B,0,none⟩)):=h.tx.cell 0
 have q5:w.cell? ⟨B,5,none⟩=some (.slice p.A.sa r.sf.n p.A.sc):=h.bx.cell 5
 clear h hrm hAC hw
 go_enter Tryz.func143,Tryz.ntmps143
 go_wp2
 clear q0 q5
 go_loopw [13] (fun i wr=>∃ (j:Nat) (p':RcP),i=.int .i64 (j:Int)∧j≤r.sf.n∧Hid (TkAt wr T B (Xs r j) p' s ps)∧Hid (AkRm wr (Xs r j) p')∧Hid (∀ i,i<(Xs r j).an→(j:Int)<((Xs r j).as_ i).ix→p'.AC i=((Xs r j).as_ i).n)∧Hid (p'.A.sa=p.A.sa)∧Hid (FrP (fun q=>q=B∨rbs p r q) w wr)∧Hid (∀ q,rbs p' (Xs r j) q→rbs p r q∨w.1.size≤q)) (fun i _=>r.sf.n-(intOf i).toNat)
 case atStart=>exact ⟨0,p,rfl,zle _,H,HRM,hid (fun i hi _=>HAC.out i hi),hid rfl,hid (FrP.refl _ _),hid (fun q hq=>Or.inl hq)⟩
 case round=>
  obtain ⟨j,p',rfl,hj,TK,RM,AC,SA,FR,NB⟩:=hrel
  by_cases hjn:j<r.sf.n
  ·have KP:=hid (Jf r j)
   have AW:=hid (HW.out j (by omega))
   have SK:Hid (Xs r (j+1)=if (r.sf.s j).bal=r.bal then Ya (Xs r j) r.num ((j:Int)+1) else Xs r j):=hid rfl
   obtain ⟨R,hR⟩:∃ R,Xs r j=R:=⟨_,rfl⟩
   rw [hR] at TK RM AC NB KP AW SK
   have KB:=hid (show R.bal=r.bal by rw [KP.out])
   have KN:=hid (show R.num=r.num by rw [KP.out])
   have KS:=hid (show R.sf=r.sf by rw [KP.out])
   clear hR KP
   have o0:=TK.out.g.at_.o0
   rw [KS.out] at o0
   have had:=o0.addr (by omega)
   obtain ⟨c,rr,hat⟩:=o0.row (by omega)
   obtain ⟨a0,a1⟩:=hat j hjn
   have c0:=(rr.cell (j*2) (by omega)).trans (congrArg some a0)
   have c1:=(rr.cell (j*2+1) (by omega)).trans (congrArg some a1)
   have hgl:=rr.lt
   rw [SA.out] at had
   rw [had]
   have SA2:=hid (SA.out.trans had)
   obtain ⟨bl,hbl⟩:∃ bl,(r.sf.s j).bal=bl:=⟨_,rfl⟩
   obtain ⟨tx,htx⟩:∃ tx,(r.sf.s j).text=tx:=⟨_,rfl⟩
   rw [hbl] at c0 SK
   rw [htx] at c1
   have HJN:=hid hjn
   clear o0 had hat a0 a1 rr hbl htx SA
   have lT:=TK.out.tx.lt
   have lB:=TK.out.bx.lt
   have y0:=Zc (W1:=(wr.alloc (.cells #[.int .i64 bl,.string tx] 109))) (p:=⟨wr.1.size,0,none⟩) (v:=.int .i64 bl) (by simp) (by simp)
   have yT:=Zc (W1:=(wr.alloc (.cells #[.int .i64 bl,.string tx] 109))) (p:=⟨T,0,none⟩) (v:=.pointer (some ⟨B,0,none⟩)) ((World.cell?_alloc_past _ _ _ lT).trans (TK.out.tx.cell 0)) (by simp;omega)
   have yB:=Zc (W1:=(wr.alloc (.cells #[.int .i64 bl,.string tx] 109))) (p:=⟨B,13,none⟩) (v:=.int .i64 R.bal) ((World.cell?_alloc_past _ _ _ lB).trans (TK.out.bx.cell 13)) (by simp;omega)
   have hne:Nonempty (GW (wr.alloc (.cells #[.int .i64 bl,.string tx] 109))):=⟨⟨_,br _ _⟩⟩
   go_wp2
   refine Zf (by kernel_rfl) (by kernel_rfl) ?_
   repeat (go_big_quiet_step (fail))
   refine wpQuiet_nil ?_
   rintro w8 ⟨v8,hv8⟩
   have hw8:Below (wr.alloc (.cells #[.int .i64 bl,.string tx] 109)).1.size (wr.alloc (.cells #[.int .i64 bl,.string tx] 109)) w8:=hv8▸v8.prop
   have HB8:Hid (Below wr.1.size wr w8):=hid ((Zb wr _).trans (hw8.mono (by simp)))
   clear hv8 v8 hw8 y0 yT yB hne
   by_cases he:bl=R.bal
   ·have EQ:=hid (show Xs r (j+1)=Ya R r.num ((j:Int)+1) by rw [SK.out,if_pos (he.trans KB.out)])
    have heb:(bl==R.bal)=true:=by rw [he];simp
    rw [heb]
    clear he heb SK
    have K8:=hid (TK.out.grow HB8.out)
    have RM8:=hid (RM.out.grow HB8.out)
    go_wp2
    refine twsReg4 _ _ _ _ _ _ _ _ _ _ _ _ _ _ _ _ _ _ _ _ _ _ _ _ _ _ _ _ _ _ _ _ _ _ _ _ _ _ _ _ _ T B j R p' (fun w'=>∃ p2,Bx w' B (rcC (Ya R r.num ((j:Int)+1)) p2.A)∧RcG w' (Ya R r.num ((j:Int)+1)) p2∧FrP (fun q=>q=B∨rbs p' R q) wr w'∧(∀ q,rbs p2 (Ya R r.num ((j:Int)+1)) q→rbs p' R q∨wr.1.size≤q)∧AkRm w' (Ya R r.num ((j:Int)+1)) p2∧AkKeep R p' (Ya R r.num ((j:Int)+1)) p2 ((j:Int)+1)) w8 K8.out.tx.lt K8.out.bx.lt (K8.out.bx.cell 0) (K8.out.tx.cell 0) (by omega) (fun X hb=>?_) _ ?_
    ·rw [KN.out]
     refine (took_R R p' B r.num ((j:Int)+1) X (K8.out.bx.below hb K8.out.bx.lt) (K8.out.g.grow hb) (fun q hq=>(K8.out.ap q hq).2.1) (RM8.out.grow hb) (fun i hi e=>AC.out i hi (by omega)) AW.out.ackV ⟨by omega,by omega⟩).mono ?_
     rintro e w' ⟨rfl,p2,x2,g2,f2,s2,m2,k2⟩
     have z1:=HB8.out.size
     have z2:=hb.size
     exact ⟨rfl,p2,x2,g2,(FrP.of_below (HB8.out.trans (hb.mono z1))).trans2 f2 (fun q hq e=>by
      rcases e with e|e
      ·exact Or.inl e
      ·exact Or.inr ⟨6,by omega,e⟩),fun q hq=>by
      rcases s2 q hq with h|h
      ·exact Or.inl h
      ·exact Or.inr (by omega),m2,k2⟩
    ·rintro t v3 Z ⟨p2,x2,g2,f2,s2,m2,k2⟩
     have TK2:=hid (TK.out.next x2 g2 f2 s2 (by rw [NT]))
     have M2:=hid m2
     have AC2:Hid (∀ i,i<(Ya R r.num ((j:Int)+1)).an→((j+1:Nat):Int)<((Ya R r.num ((j:Int)+1)).as_ i).ix→p2.AC i=((Ya R r.num ((j:Int)+1)).as_ i).n):=hid (fun i hi h9=>by
      obtain ⟨i',h1,h2,h3,h4⟩:=k2.2 i hi (by omega)
      rw [h4,AC.out i' h1 (by rw [h2];omega),h3])
     have SA3:=hid (k2.1.trans SA2.out)
     have zz:=FR.out.size
     have FR2:Hid (FrP (fun q=>q=B∨rbs p r q) w Z):=hid (FR.out.trans2 f2 (fun q hq e=>by
      rcases e with e|e
      ·exact Or.inl e
      ·rcases NB.out q e with h|h
       ·exact Or.inr h
       ·omega))
     have NB2:Hid (∀ q,rbs p2 (Ya R r.num ((j:Int)+1)) q→rbs p r q∨w.1.size≤q):=hid (fun q hq=>by
      rcases s2 q hq with h|h
      ·exact NB.out q h
      ·exact Or.inr (by omega))
     clear x2 g2 f2 s2 m2 k2
     go_wp2
     go_roundw
     case rel=>exact ⟨j+1,p2,by go_num,HJN.out,by rw [EQ.out];exact TK2,by rw [EQ.out];exact M2,by rw [EQ.out];exact AC2,SA3,FR2,by rw [EQ.out];exact NB2⟩
     case measure=>have:=HJN.out;simp [intOf];omega
   ·have EQ:=hid (show Xs r (j+1)=R by rw [SK.out,if_neg (fun e=>he (e.trans KB.out.symm))])
    have heb:(bl==R.bal)=false:=by simpa using he
    rw [heb]
    clear he heb SK
    have TK2:=hid (TK.out.grow HB8.out)
    have M2:=hid (RM.out.grow HB8.out)
    have FR2:=hid (FR.out.trans (FrP.of_below HB8.out))
    have AC2:Hid (∀ i,i<R.an→((j+1:Nat):Int)<(R.as_ i).ix→p'.AC i=(R.as_ i).n):=hid (fun i hi h9=>AC.out i hi (by omega))
    go_wp2
    go_roundw
    case rel=>exact ⟨j+1,p',by go_num,HJN.out,by rw [EQ.out];exact TK2,by rw [EQ.out];exact M2,by rw [EQ.out];exact AC2,SA2,FR2,by rw [EQ.out];exact NB⟩
    case measure=>have:=HJN.out;simp [intOf];omega
  ·have hje:j=r.sf.n:=by omega
   subst hje
   go_wp2
   exact bodyPost_end (results_none rfl _ _ _) rfl ⟨rfl,p',TK.out,FR.out,NB.out,trivial⟩
set_option maxRecDepth 100000 in
theorem FI (T g n:Nat) (fs:Nat→FuncId) (w:World) (hn:n≤100) (hE:∀ i,i<n→∀ X,(callFunc (fs i) #[.pointer (some ⟨T,0,none⟩)]).run Tryz.prog X=.ok (.enter (fs i) #[.pointer (some ⟨T,0,none⟩)]) X) (Inv:Nat→World→Prop) (h0:Inv 0 w) (hrow:∀ j X,j≤n→Inv j X→g<X.1.size∧∀ i,i<n→X.cell? ⟨g,i,none⟩=some (.func (.func (fs i)) #[] #[]))
  (hst:∀ j X,j<n→Inv j X→Calls Tryz.prog (fs j) #[.pointer (some ⟨T,0,none⟩)] X fun e w'=>e=.returned (.tuple #[])∧Inv (j+1) w') :
  Calls Tryz.prog 105 #[.pointer (some ⟨T,0,none⟩),.slice (some ⟨g,0,none⟩) n n] w fun e w'=>e=.returned (.tuple #[])∧Inv n w':=by
 have H0:=hid h0
 have HR:=hid hrow
 have HS:=hid hst
 have HE:=hid hE
 clear h0 hrow hst hE
 go_enter Tryz.func105,Tryz.ntmps105
 go_wp2
 go_loopw [8] (fun i wr=>∃ (j:Nat),i=.int .i64 (j:Int)∧j≤n∧Hid (Inv j wr)) (fun i _=>n-(intOf i).toNat)
 case atStart=>exact ⟨0,rfl,zle _,H0⟩
 case round=>
  obtain ⟨j,rfl,hj,HI⟩:=hrel
  by_cases hjn:j<n
  ·have hr:=HR.out j wr hj HI.out
   have hgl:=hr.1
   have c0:=hr.2 j hjn
   have HC:=hid (HS.out j wr hjn HI.out)
   clear hr
   go_wp2_with fail
   rw [HE.out j hjn,Oper.upon_enter]
   refine HC.out.mono ?_
   rintro e w2 ⟨rfl,hi2⟩
   have HI2:=hid hi2
   clear hi2 c0
   go_wp2
   go_roundw
   case rel=>exact ⟨j+1,by go_num,hjn,HI2⟩
   case measure=>simp [intOf];omega
  ·obtain rfl:j=n:=by omega
   go_wp2
   exact bodyPost_end (results_none rfl _ _ _) rfl ⟨rfl,HI.out⟩
structure TkZ (P0:Nat→Prop) (w0:World) (T B:Nat) (X:World) (r:Rc) (p:RcP) (s:Rc) (ps:RcP):Prop where
 tk:TkAt X T B r p s ps
 fr:FrP P0 w0 X
 n1:∀ q,rbs p r q→P0 q∨w0.1.size≤q
 n2:∀ q,rbs ps s q→P0 q∨w0.1.size≤q
theorem TkZ.stepR {P0:Nat→Prop} {w0 X w':World} {T B:Nat} {r s r':Rc} {p ps:RcP} {e:Ending} {F:RcP→Prop} (h:TkZ P0 w0 T B X r p s ps) (hB:P0 B) (hr:TkR F T B r p s ps r' X e w'):e=.returned (.tuple #[])∧∃ p',TkZ P0 w0 T B w' r' p' s ps∧F p':=by
 obtain ⟨he,p',h1,h2,h3,h4⟩:=hr
 refine ⟨he,p',⟨h1,h.fr.trans2 h2 (fun q hq e=>?_),fun q hq=>?_,h.n2⟩,h4⟩
 ·rcases e with e|e
  ·exact e▸hB
  ·rcases h.n1 q e with h|h
   ·exact h
   ·omega
 ·rcases h3 q hq with e|e
  ·exact h.n1 q e
  ·exact Or.inr (ltr h.fr.size e)
theorem TkZ.stepS {P0:Nat→Prop} {w0 X w':World} {T B:Nat} {r s s':Rc} {p ps:RcP} {e:Ending} (h:TkZ P0 w0 T B X r p s ps) (hT:P0 T) (hr:SnR T B r p s ps s' X e w'):e=.returned (.tuple #[])∧∃ ps',TkZ P0 w0 T B w' r p s' ps':=by
 obtain ⟨he,ps',h1,h2,h3⟩:=hr
 refine ⟨he,ps',⟨h1,h.fr.trans2 h2 (fun q hq e=>?_),h.n1,fun q hq=>?_⟩⟩
 ·rcases e with e|e
  ·exact e▸hT
  ·rcases h.n2 q e with h|h
   ·exact h
   ·omega
 ·rcases h3 q hq with e|e
  ·exact h.n2 q e
  ·exact Or.inr (ltr h.fr.size e)
def Ja (r:Rc):Rc:=Xs r r.sf.n
def Xc (r:Rc):Rc:=brR (Ja r).bal (Ja r).ws (Ja r).wn (Ja r)
def ED (r s:Rc):Rc:=XB (Xc r).num (beM (Xc r)) (Xc r).of.toNat s
def Pu (r s:Rc):Rc:=UN (Xc r) (Xc r).dk.kn.toNat ((Xc r).dk.n-(Xc r).dk.kn.toNat) (ED r s)
def Nm (r:Rc):Rc:=if r.ld=true then Xc r else r
def FH (r s:Rc):Rc:=if r.ld=true then Pu r s else s
structure LdOk (w:World) (r:Rc) (p:RcP):Prop where
 rm:AkRm w r p
 ac:∀ i,i<r.an→p.AC i=(r.as_ i).n
 aw:AckW r
 nu:1≤r.num∧r.num≤10
 of:0≤r.of∧r.of≤10
 sn:r.sf.n≤60
 wn:r.wn≤1000
theorem LdOk.grow {w X:World} {r:Rc} {p:RcP} (h:LdOk w r p) (hb:Below w.1.size w X):LdOk X r p:=⟨h.rm.grow hb,h.ac,h.aw,h.nu,h.of,h.sn,h.wn⟩
theorem NH (bal:Int) (ws:Nat→ByteArray) (r:Rc):∀ j,(brR bal ws j r).dk.kn=r.dk.kn∧r.dk.n≤(brR bal ws j r).dk.n∧(brR bal ws j r).of=r.of
 | 0=>⟨rfl,lrf _,rfl⟩
 | j+1=>by
  have h:=NH bal ws r j
  rw [brR]
  split
  ·exact ⟨h.1,Nat.le_succ_of_le h.2.1,h.2.2⟩
  ·exact h
theorem sndR_hn (num:Int) (m:Ms) (s:Rc) (k:Nat) (hk:k≤10):(XB num m k s).hn≤s.hn+10:=by
 have:=Np num m s k
 omega
def EC (i:Nat):FuncId:=match i with|0=>143|1=>144|2=>145|_=>146
set_option maxRecDepth 100000 in
theorem golE (T:Nat):∀ i,i<4→∀ X,(callFunc (EC i) #[.pointer (some ⟨T,0,none⟩)]).run Tryz.prog X=.ok (.enter (EC i) #[.pointer (some ⟨T,0,none⟩)]) X:=fun i hi X=>by
 rcases (show i=0∨i=1∨i=2∨i=3 by omega) with rfl|rfl|rfl|rfl
 ·exact (by kernel_rfl:(callFunc 143 #[.pointer (some ⟨T,0,none⟩)]).run Tryz.prog X=.ok (.enter 143 #[.pointer (some ⟨T,0,none⟩)]) X)
 ·exact (by kernel_rfl:(callFunc 144 #[.pointer (some ⟨T,0,none⟩)]).run Tryz.prog X=.ok (.enter 144 #[.pointer (some ⟨T,0,none⟩)]) X)
 ·exact (by kernel_rfl:(callFunc 145 #[.pointer (some ⟨T,0,none⟩)]).run Tryz.prog X=.ok (.enter 145 #[.pointer (some ⟨T,0,none⟩)]) X)
 ·exact (by kernel_rfl:(callFunc 146 #[.pointer (some ⟨T,0,none⟩)]).run Tryz.prog X=.ok (.enter 146 #[.pointer (some ⟨T,0,none⟩)]) X)
def TkP (T B:Nat) (r:Rc) (p:RcP) (s:Rc) (ps:RcP) (q:Nat):Prop:=q=T∨q=B∨rbs p r q∨rbs ps s q
theorem TkZ.new {w X:World} {T B:Nat} {r s:Rc} {p ps:RcP} (h:TkAt w T B r p s ps) (hb:Below w.1.size w X):TkZ (TkP T B r p s ps) X T B X r p s ps:=⟨h.grow hb,FrP.refl _ _,fun _q hq=>Or.inl (Or.inr (Or.inr (Or.inl hq))),fun _q hq=>Or.inl (Or.inr (Or.inr (Or.inr hq)))⟩
theorem TkP.lt {w:World} {T B:Nat} {r s:Rc} {p ps:RcP} (h:TkAt w T B r p s ps) {q:Nat} (hq:TkP T B r p s ps q):q<w.1.size:=by
 rcases hq with e|e|e|e
 ·rw [e];exact h.tx.lt
 ·rw [e];exact h.bx.lt
 ·exact h.g.at_.lt q e
 ·exact h.sg.at_.lt q e
theorem TkZ.lift {P0:Nat→Prop} {w0 w W X:World} {T B:Nat} {r s r' s':Rc} {p ps p' ps':RcP} (h:TkZ P0 w0 T B w r p s ps) (hT:P0 T) (hB:P0 B) (hb:Below w.1.size w W) (z:TkZ (TkP T B r p s ps) W T B X r' p' s' ps'):TkZ P0 w0 T B X r' p' s' ps':=by
 have up:∀ q,TkP T B r p s ps q→P0 q∨w0.1.size≤q:=fun q hq=>by
  rcases hq with e|e|e|e
  ·exact Or.inl (e▸hT)
  ·exact Or.inl (e▸hB)
  ·exact h.n1 q e
  ·exact h.n2 q e
 have z1:=h.fr.size
 have z2:=hb.size
 refine ⟨z.tk,h.fr.trans2 ((FrP.of_below hb).trans z.fr) (fun q hq e=>?_),fun q hq=>?_,fun q hq=>?_⟩
 ·rcases up q e with h|h
  ·exact h
  ·omega
 ·rcases z.n1 q hq with h|h
  ·exact up q h
  ·exact Or.inr (by omega)
 ·rcases z.n2 q hq with h|h
  ·exact up q h
  ·exact Or.inr (by omega)
theorem Pv (T B:Nat) (r:Rc) (p:RcP) (s:Rc) (ps:RcP) (w W:World) (h:TkAt w T B r p s ps) (hl:LdOk w r p) (hsn:s.hn≤1000) (hb:Below w.1.size w W) (hgl:w.1.size<W.1.size) (hg:∀ i,i<4→W.cell? ⟨w.1.size,i,none⟩=some (.func (.func (EC i)) #[] #[])) :
  Calls Tryz.prog 105 #[.pointer (some ⟨T,0,none⟩),.slice (some ⟨w.1.size,0,none⟩) 4 4] W fun e w'=>e=.returned (.tuple #[])∧∃ p' ps',TkZ (TkP T B r p s ps) W T B w' (Xc r) p' (Pu r s) ps':=by
 have OF:=hl.of
 have AW1:=hl.aw.tws hl.nu r.sf.n hl.sn
 have K1:=Jf r r.sf.n
 have A1:(Ja r).of=r.of:=by show (Xs r r.sf.n).of=_;rw [K1]
 have A2:(Ja r).wn=r.wn:=by show (Xs r r.sf.n).wn=_;rw [K1]
 have A3:=NH (Ja r).bal (Ja r).ws (Ja r) (Ja r).wn
 have A4:(Ja r).dk.n≤60:=AW1.dn
 have A5:(Xc r).dk.n≤60:=IK (Ja r).bal (Ja r).ws (Ja r) A4 (Ja r).wn
 have A6:0≤(Ja r).dk.kn:=AW1.k0
 have A7:(Ja r).dk.kn≤(Ja r).dk.n:=AW1.k1
 have e1:(Xc r).dk.kn=(Ja r).dk.kn:=A3.1
 have e2:(Ja r).dk.n≤(Xc r).dk.n:=A3.2.1
 have e3:(Xc r).of=(Ja r).of:=A3.2.2
 have wn1:=hl.wn
 have oz:(Xc r).of.toNat≤10:=by omega
 have B7:(ED r s).hn≤1010:=by have:=sndR_hn (Xc r).num (beM (Xc r)) s (Xc r).of.toNat oz;show (XB _ _ _ _).hn≤_;omega
 have keepRow:∀ X,FrP (TkP T B r p s ps) W X→w.1.size<X.1.size∧∀ i,i<4→X.cell? ⟨w.1.size,i,none⟩=some (.func (.func (EC i)) #[] #[]):=fun X hf=>⟨ltl hgl hf.size,fun i hi=>(hf.cell (p:=⟨w.1.size,i,none⟩) hgl (fun e=>by have:=TkP.lt h e;exact absurd this (Nat.lt_irrefl _))).trans (hg i hi)⟩
 have pT:TkP T B r p s ps T:=Or.inl rfl
 have pB:TkP T B r p s ps B:=Or.inr (Or.inl rfl)
 refine (FI T w.1.size 4 EC W (by omega) (golE T) (fun j X=>FrP (TkP T B r p s ps) W X∧(match j with
   | 0=>TkZ (TkP T B r p s ps) W T B X r p s ps∧LdOk X r p
   | 1=>∃ p',TkZ (TkP T B r p s ps) W T B X (Ja r) p' s ps
   | 2=>∃ p',TkZ (TkP T B r p s ps) W T B X (Xc r) p' s ps
   | 3=>∃ p' ps',TkZ (TkP T B r p s ps) W T B X (Xc r) p' (ED r s) ps'
   | _=>∃ p' ps',TkZ (TkP T B r p s ps) W T B X (Xc r) p' (Pu r s) ps')) ⟨FrP.refl _ _,TkZ.new h hb,hl.grow hb⟩ (fun j X _ hI=>keepRow X hI.1) (fun j X hj hI=>?_)).mono ?_
 ·obtain ⟨hf,hI⟩:=hI
  rcases (show j=0∨j=1∨j=2∨j=3 by omega) with rfl|rfl|rfl|rfl
  ·obtain ⟨z,lo⟩:=hI
   refine (Od T B r p s ps X z.tk lo.rm lo.ac lo.aw lo.nu lo.sn).mono fun e w' hr=>?_
   obtain ⟨he,p',z2,_⟩:=z.stepR pB hr
   exact ⟨he,z2.fr,p',z2⟩
  ·obtain ⟨p1,z⟩:=hI
   refine (NG T B (Ja r) p1 s ps X z.tk A4 (by omega)).mono fun e w' hr=>?_
   obtain ⟨he,p',k1,k2,k3⟩:=hr
   obtain ⟨_,p2,z2,_⟩:=z.stepR (F:=fun _=>True) pB (⟨he,p',k1,k2,k3,trivial⟩:TkR _ T B (Ja r) p1 s ps (Xc r) X e w')
   exact ⟨he,z2.fr,p2,z2⟩
  ·obtain ⟨p1,z⟩:=hI
   refine (Io T B (Xc r) p1 s ps X z.tk (by omega) (by omega) (by omega)).mono fun e w' hr=>?_
   obtain ⟨he,ps',z2⟩:=z.stepS pT hr
   exact ⟨he,z2.fr,p1,ps',z2⟩
  ·obtain ⟨p1,ps1,z⟩:=hI
   refine (Nu T B (Xc r) p1 (ED r s) ps1 (Xc r).dk.kn.toNat X z.tk (by omega) (by omega) (by omega) (by omega) (by omega) A5).mono fun e w' hr=>?_
   obtain ⟨he,ps',z2⟩:=z.stepS pT hr
   exact ⟨he,z2.fr,p1,ps',z2⟩
 ·rintro e w' ⟨he,_,p',ps',z⟩
  exact ⟨he,p',ps',z⟩
set_option maxRecDepth 100000 in
theorem goOn_do (P0:Nat→Prop) (w0:World) (T B:Nat) (r:Rc) (p:RcP) (s:Rc) (ps:RcP) (w:World) (h:TkZ P0 w0 T B w r p s ps) (hT:P0 T) (hB:P0 B) (hl:r.ld=true→LdOk w r p) (hsn:s.hn≤1000) :
  Calls Tryz.prog 111 #[.pointer (some ⟨T,0,none⟩)] w fun e w'=>e=.returned (.tuple #[])∧∃ p' ps',TkZ P0 w0 T B w' (Nm r) p' (FH r s) ps':=by
 have H:=hid h
 have HT:=hid hT
 have HB:=hid hB
 have q0:w.cell? ⟨T,0,none⟩=some (.pointer (some ⟨B,0,none⟩)):=h.tk.tx.cell 0
 have q11:w.cell? ⟨B,11,none⟩=some (.bool r.ld):=h.tk.bx.cell 11
 clear h hT hB
 cases hld:r.ld with
 | false=>
  have E1:=hid (show Nm r=r from if_neg (by rw [hld];simp))
  have E2:=hid (show FH r s=s from if_neg (by rw [hld];simp))
  rw [hld] at q11
  clear hld hl
  rw [E1.out,E2.out]
  go_enter Tryz.func111,Tryz.ntmps111
  go_wp2
  exact bodyPost_end (results_none rfl _ _ _) rfl ⟨rfl,p,ps,H.out⟩
 | true=>
  have E1:=hid (show Nm r=Xc r from if_pos hld)
  have E2:=hid (show FH r s=Pu r s from if_pos hld)
  have HL:=hid (hl hld)
  rw [hld] at q11
  clear hld hl
  rw [E1.out,E2.out]
  have ST:=hid (Pv T B r p s ps w (w.alloc (.cells #[.func (.func 143) #[] #[],.func (.func 144) #[] #[],.func (.func 145) #[] #[],.func (.func 146) #[] #[]] 146)) H.out.tk HL.out hsn (Zb _ _) (by simp) (fun i hi=>by
   rcases (show i=0∨i=1∨i=2∨i=3 by omega) with rfl|rfl|rfl|rfl<;>simp [EC]))
  go_enter Tryz.func111,Tryz.ntmps111
  go_wp2_with (go_at_call 105;go_must (refine ST.out.mono ?_;rintro e w2 ⟨rfl,p',ps',z⟩;have Z:=hid (H.out.lift HT.out HB.out (Zb _ _) z);clear z))
  exact bodyPost_end (results_none rfl _ _ _) rfl ⟨rfl,p',ps',Z.out⟩
end Go.Proofs.YtokkbdlofbdljaaGreat
