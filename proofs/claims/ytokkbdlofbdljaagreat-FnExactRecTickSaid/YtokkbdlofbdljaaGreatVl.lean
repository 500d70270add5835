import Derived.Test.YtokkbdlofbdljaaGreatUm
namespace Go.Proofs.YtokkbdlofbdljaaGreat
open Go.RowKit
set_option maxHeartbeats 8000000
theorem apVl6 {P:Prop} (h:P:=by
  go_wp2
  go_roundw
  case rel=>exact ⟨k+1,by omega,by go_num,by first|trivial|rfl,(fun j hj=>by
   rcases Nat.lt_or_ge j k with h|h
   ·exact HN.out j h
   ·obtain rfl:j=k:=by omega
    exact HP.out:∀ j,j<k+1→¬(x j).text=a)⟩
  case measure=>simp [intOf];omega):P:=h
set_option maxRecDepth 100000 in
theorem has_gen (n:Nat) (x:Nat→Sl) (ad:Option Addr) (cap:Nat) (a:ByteArray) (w:World) (lo hi:Nat) (hl:(n:Int)≤1048576) (hbal:∀ i,i<n→0<(x i).bal∨¬(x i).text=a) (hc:SlsIn w lo hi ad n x) :
  Calls Tryz.prog 33 #[.slice ad n cap,.string a] w fun e w'=>e=.returned (.bool (hasB n (fun i=>(x i).text) a))∧w'=w:=by
 have HC:=hid hc
 have HBL:=hid hbal
 clear hc hbal
 go_enter Tryz.func33,Tryz.ntmps33
 go_wp2
 go_loopw [5] (fun i wr=>∃ k:Nat,k≤n∧i=.int .i64 k∧wr=w∧Hid (∀ j,j<k→¬(x j).text=a)) (fun i _=>n-(intOf i).toNat)
 case atStart=>exact ⟨0,zle _,rfl,rfl,fun j hj=>absurd hj (nlz _)⟩
 case round=>
  obtain ⟨k,hk,rfl,rfl,HN⟩:=hrel
  by_cases hkn:k<n
  ·obtain ⟨b,off,rfl,hlo,hbh,hcx⟩:=HC.out k hkn
   obtain ⟨c0,c1⟩:=hcx
   by_cases he:(x k).text=a
   ·have hp:0<(x k).bal:=(HBL.out k hkn).resolve_right (fun h=>h he)
    have HE:=hid (Jq (s:=fun i=>(x i).text) hkn he)
    have hbq:((x k).text.toList==a.toList)=true:=by rw [Nr];simp [he]
    clear he
    go_wp2
    go_ret
    exact ⟨Zh HE.out.symm,rfl⟩
   ·have hbq:=Js he
    have hbq2:=Js (fun h=>he (Eq.symm h))
    have HP:=hid he
    clear he
    by_cases hp:0<(x k).bal
    ·skip
     exact apVl6
    ·have hp2:(x k).bal≤0:=by omega
     clear hp hbq hbq2
     exact apVl6
  ·have HE:=hid (Kd (n:=n) (s:=fun i=>(x i).text) (a:=a) (fun i hi'=>HN.out i (by omega)))
   go_wp2
   go_ret
   exact ⟨Zh HE.out.symm,rfl⟩
def Ev (S g off iq wn cap:Nat) (tx:ByteArray) (r:Rc) (p:RcP) (i:Nat) (v:Value) (_X:World):Prop:=
 match i with
 | 0=>v=.pointer (some ⟨S,6,none⟩)
 | 1=>v=.pointer (some ⟨S,8,none⟩)
 | 2=>v=.slice p.A.da r.dk.n p.A.dc
 | 3=>v=.pointer (some ⟨S,10,none⟩)
 | 4=>v=.slice (some ⟨g,off,none⟩) wn cap
 | 5=>v=.int .i64 (iq:Int)
 | 6=>v=.pointer (some ⟨g,off+iq,none⟩)
 | 7=>v=.string tx
 | 8=>v=.bool true
 | 9=>v=.bool false
 | 10=>v=.bool false
 | 11=>v=undef
 | 12=>v=undef
 | 13=>v=undef
 | 14=>v=undef
 | 15=>v=undef
 | _=>True
theorem Jv {P:Prop} (h:P:=by
  have h:=hK _ X rfl (br _ _)
  refine Zi rfl rfl ?_
  clear hK hg
  go_simp
  simpa [updT] using h):P:=h
theorem Ge {P:Prop} (h:P:=by
  have e1:t 1=.pointer (some ⟨S,8,none⟩):=hg 1 (Wt rfl)
  have f1:=(hb.cell (p:=⟨S,8,none⟩) hS.lt).trans (hS.cell 8)
  have h:=hK _ X rfl (br _ _)
  refine Zi rfl rfl ?_
  clear hK hg
  go_simp
  simpa [updT,e1] using h):P:=h
theorem OZ {P:Prop} (h:P:=by
  have h:=hK _ X rfl (br _ _)
  refine Zi rfl rfl ?_
  clear hK hg
  go_simp
  simpa [updT,e3] using h):P:=h
theorem Gc {P:Prop} (h:P:=by
  have e0:t 0=.pointer (some ⟨S,6,none⟩):=hg 0 (Wt rfl)
  have h:=hK _ X rfl (br _ _)
  refine Zi rfl rfl ?_
  clear hK hg
  go_simp
  simpa [updT,e0] using h):P:=h
theorem PQ {P:Prop} (h:P:=by
  have h:=hK _ X rfl (br _ _)
  refine Zi rfl rfl ?_
  clear hK hg
  go_simp
  simpa [updT,e6] using h):P:=h
theorem apVl8 {P:Prop} (h:P:=by
  have e4:t 4=.slice (some ⟨g,off,none⟩) wn cap:=hg 4 (Wt rfl)
  have e5:t 5=.int .i64 (iq:Int):=hg 5 (Wt rfl)
  have hi2:=hi
  have h:=hK _ X rfl (br _ _)
  refine Zi rfl rfl ?_
  clear hK hg
  go_simp
  simpa [updT,e4,e5] using h):P:=h
abbrev Gt:Array Oper:=#[⟨some 40,.fieldAddr 38 (.tmp 2) 4,0,Qc,#[],none⟩,⟨some 41,.fieldAddr 34 (.tmp 40) 2,0,Qc,#[⟨0,.data⟩],none⟩,⟨some 42,.load 32 (.tmp 41),32,Qc,#[⟨1,.data⟩],none⟩,⟨some 43,.fieldAddr 38 (.tmp 2) 6,0,Qc,#[],none⟩,⟨some 44,.load 26 (.tmp 43),26,Qc,#[⟨3,.data⟩],none⟩,⟨some 45,.move (.tmp 7),3,Qc,#[],none⟩,⟨some 46,.indexAddr 26 (.tmp 44) (.tmp 45),0,Qc,#[⟨4,.data⟩,⟨5,.data⟩],none⟩,⟨some 47,.load 9 (.tmp 46),9,Qc,#[⟨6,.data⟩],none⟩,⟨some 48,.call ⟨.value (.func 33),#[.tmp 42,.tmp 47],#[32,9]⟩,4,Qc,#[⟨2,.data⟩,⟨7,.data⟩],none⟩,⟨some 49,.unOp .not 4 (.tmp 48),4,Qc,#[⟨8,.data⟩],none⟩,⟨some 50,.move (.tmp 49),4,Qc,#[⟨9,.data⟩,⟨8,.chain⟩],none⟩,⟨some 51,.fieldAddr 38 (.tmp 2) 4,0,Qc,#[⟨10,.guard⟩],some (10,true)⟩,⟨some 52,.fieldAddr 34 (.tmp 51) 2,0,Qc,#[⟨11,.data⟩,⟨10,.guard⟩],some (10,true)⟩,⟨some 53,.load 32 (.tmp 52),32,Qc,#[⟨12,.data⟩,⟨10,.guard⟩],some (10,true)⟩,⟨some 54,.call ⟨.builtin .len,#[.tmp 53],#[32]⟩,3,Qc,#[⟨13,.data⟩,⟨10,.guard⟩],some (10,true)⟩,⟨some 55,.binOp .lss 3 (.tmp 54) (.const (.int .i64 60)) 3,4,Qc,#[⟨14,.data⟩,⟨10,.guard⟩],some (10,true)⟩,⟨some 56,.pick (.tmp 50) (.tmp 55) (.const (.bool false)),4,Qc,#[⟨10,.data⟩,⟨15,.data⟩],none⟩]
set_option maxRecDepth 100000 in
theorem Ft (p0 p1 p3 p4 p5 p6 p8 p9 ze zc za zd zi zj zg zh zn zm zo zp zq yb yf ye z9 yd z8 z0 zu zy zt yg yi yj yh yk ym yo yp yq yv yw xx xy xc yu yx xb xd xg xk xe xh js x9 jk jj ji jl xw yz xi xm xa xf xj xl yy xn xp xq xr xu xt jt jr jq kf ke kk kq kh j0 j2 j6 jz jx jy jv x8 xz:Value) (w0 w1 w2 w3 w4 w5 w6 w7 w8 w9 w10 w11 w12 w13 w14 w15:Value) (S g off iq wn cap:Nat) (tx:ByteArray) (r:Rc) (p:RcP) (W:World) (hS:Bx W S (rcC r p.A)) (hgl:g<W.1.size) (hi:iq<wn) (_hwn:wn≤1000) (_hdn:r.dk.n≤60) (cS:W.cell? ⟨S,10,none⟩=some (.slice (some ⟨g,off,none⟩) wn cap)) (cg:W.cell? ⟨g,off+iq,none⟩=some (.string tx)) (hC:∀ X,Below W.1.size W X→Calls Tryz.prog 33 #[.slice p.A.da r.dk.n p.A.dc,.string tx] X fun e w'=>e=.returned (.bool true)∧Below X.1.size X w') (Q:Exit→Act→World→Prop) (hQ:∀ (t:Nat→Value) (v3:Value) X,v3=.bool false∧Below W.1.size W X→Q .normal ⟨#[p0,p1,.pointer (some ⟨S,0,none⟩),p3,p4,p5,p6,.int .i64 (iq:Int),p8,p9,ze,zc,za,zd,zi,zj,zg,zh,zn,zm,zo,zp,zq,yb,yf,ye,z9,yd,z8,z0,zu,zy,zt,yg,yi,yj,yh,yk,ym,yo,t 0,t 1,t 2,t 3,t 4,t 5,t 6,t 7,t 8,t 9,t 10,t 11,t 12,t 13,t 14,t 15,v3,yq,yv,yw,xx,xy,xc,yu,yx,xb,xd,xg,xk,xe,xh,js,x9,jk,jj,ji,jl,xw,yz,xi,xm,xa,xf,xj,xl,yy,xn,xp,xq,xr,xu,xt,jt,jr,jq,kf,ke,kk,kq,kh,j0,j2,j6,jz,jx,jy,jv,x8,xz],[]⟩ X) :
  Code.wp Tryz.prog (Code.region 9 Gt true) Q ⟨#[p0,p1,.pointer (some ⟨S,0,none⟩),p3,p4,p5,p6,.int .i64 (iq:Int),p8,p9,ze,zc,za,zd,zi,zj,zg,zh,zn,zm,zo,zp,zq,yb,yf,ye,z9,yd,z8,z0,zu,zy,zt,yg,yi,yj,yh,yk,ym,yo,w0,w1,w2,w3,w4,w5,w6,w7,w8,w9,w10,w11,w12,w13,w14,w15,yp,yq,yv,yw,xx,xy,xc,yu,yx,xb,xd,xg,xk,xe,xh,js,x9,jk,jj,ji,jl,xw,yz,xi,xm,xa,xf,xj,xl,yy,xn,xp,xq,xr,xu,xt,jt,jr,jq,kf,ke,kk,kq,kh,j0,j2,j6,jz,jx,jy,jv,x8,xz],[]⟩ W:=by
 refine ZL (by kernel_rfl) 16 (fun t:Nat→Value=>#[p0,p1,.pointer (some ⟨S,0,none⟩),p3,p4,p5,p6,.int .i64 (iq:Int),p8,p9,ze,zc,za,zd,zi,zj,zg,zh,zn,zm,zo,zp,zq,yb,yf,ye,z9,yd,z8,z0,zu,zy,zt,yg,yi,yj,yh,yk,ym,yo,t 0,t 1,t 2,t 3,t 4,t 5,t 6,t 7,t 8,t 9,t 10,t 11,t 12,t 13,t 14,t 15,yp,yq,yv,yw,xx,xy,xc,yu,yx,xb,xd,xg,xk,xe,xh,js,x9,jk,jj,ji,jl,xw,yz,xi,xm,xa,xf,xj,xl,yy,xn,xp,xq,xr,xu,xt,jt,jr,jq,kf,ke,kk,kq,kh,j0,j2,j6,jz,jx,jy,jv,x8,xz]) (fun i=>match i with|0=>w0|1=>w1|2=>w2|3=>w3|4=>w4|5=>w5|6=>w6|7=>w7|8=>w8|9=>w9|10=>w10|11=>w11|12=>w12|13=>w13|14=>w14|_=>w15) (Ev S g off iq wn cap tx r p) (fun a X=>∃ (t:Nat→Value) (v3:Value),a=⟨#[p0,p1,.pointer (some ⟨S,0,none⟩),p3,p4,p5,p6,.int .i64 (iq:Int),p8,p9,ze,zc,za,zd,zi,zj,zg,zh,zn,zm,zo,zp,zq,yb,yf,ye,z9,yd,z8,z0,zu,zy,zt,yg,yi,yj,yh,yk,ym,yo,t 0,t 1,t 2,t 3,t 4,t 5,t 6,t 7,t 8,t 9,t 10,t 11,t 12,t 13,t 14,t 15,v3,yq,yv,yw,xx,xy,xc,yu,yx,xb,xd,xg,xk,xe,xh,js,x9,jk,jj,ji,jl,xw,yz,xi,xm,xa,xf,xj,xl,yy,xn,xp,xq,xr,xu,xt,jt,jr,jq,kf,ke,kk,kq,kh,j0,j2,j6,jz,jx,jy,jv,x8,xz],[]⟩∧v3=.bool false∧Below W.1.size W X) (by kernel_rfl) (by kernel_rfl) (by kernel_rfl) ?_ rfl ?_ ?_ ?_
 ·exact fun _ _ _ _ _ h _=>h
 ·intro i hi t X K hb hg hK
  rcases (show i=0∨i=1∨i=2∨i=3∨i=4∨i=5∨i=6∨i=7∨i=8∨i=9∨i=10∨i=11∨i=12∨i=13∨i=14∨i=15 by omega) with rfl|rfl|rfl|rfl|rfl|rfl|rfl|rfl|rfl|rfl|rfl|rfl|rfl|rfl|rfl|rfl
  ·exact Jv
  ·exact Gc
  ·exact Ge
  ·exact Jv
  ·have e3:t 3=.pointer (some ⟨S,10,none⟩):=hg 3 (Wt rfl)
   have f1:=(hb.cell (p:=⟨S,10,none⟩) hS.lt).trans cS
   exact OZ
  ·exact Jv
  ·exact apVl8
  ·have e6:t 6=.pointer (some ⟨g,off+iq,none⟩):=hg 6 (Wt rfl)
   have f1:=(hb.cell (p:=⟨g,off+iq,none⟩) hgl).trans cg
   exact PQ
  ·have e2:t 2=.slice p.A.da r.dk.n p.A.dc:=hg 2 (Wt rfl)
   have e7:t 7=.string tx:=hg 7 (Wt rfl)
   have e2:t 2=.slice p.A.da r.dk.n p.A.dc:=hg 2 (Wt rfl)
   have e7:t 7=.string tx:=hg 7 (Wt rfl)
   refine Zi rfl rfl ?_
   have HK:=hid hK
   have HC:=hid (hC X hb)
   clear hK hg hC hQ
   simp only [e2,e7]
   go_simp
   go_at_call 33
   refine HC.out.mono ?_
   rintro e Y ⟨rfl,hbY⟩
   have h:=HK.out (.bool true) Y rfl hbY
   simpa [updT,e2,e7] using h
  ·have e8:t 8=.bool true:=hg 8 (Wt rfl)
   have h:=hK _ X rfl (br _ _)
   refine Zi rfl rfl ?_
   clear hK hg
   go_simp
   simpa [updT,e8] using h
  ·have e9:t 9=.bool false:=hg 9 (Wt rfl)
   have h:=hK _ X rfl (br _ _)
   refine Zi rfl rfl ?_
   clear hK hg
   go_simp
   simpa [updT,e9] using h
  ·have e10:t 10=.bool false:=hg 10 ⟨_,rfl,⟨10,.guard⟩,by simp,rfl,rfl⟩
   have h:=hK undef X rfl (br _ _)
   refine Zk rfl (by simp [Region.wanted,yielded,e10]) ?_
   clear hK hg hC
   go_simp
   simpa [updT,e10] using h
  ·have e11:t 11=undef:=hg 11 (Wt rfl)
   have e10:t 10=.bool false:=hg 10 ⟨_,rfl,⟨10,.guard⟩,by simp,rfl,rfl⟩
   have h:=hK undef X rfl (br _ _)
   refine Zk rfl (by simp [Region.wanted,yielded,e10]) ?_
   clear hK hg hC
   go_simp
   simpa [updT,e11,e10] using h
  ·have e12:t 12=undef:=hg 12 (Wt rfl)
   have e10:t 10=.bool false:=hg 10 ⟨_,rfl,⟨10,.guard⟩,by simp,rfl,rfl⟩
   have h:=hK undef X rfl (br _ _)
   refine Zk rfl (by simp [Region.wanted,yielded,e10]) ?_
   clear hK hg hC
   go_simp
   simpa [updT,e12,e10] using h
  ·have e13:t 13=undef:=hg 13 (Wt rfl)
   have e10:t 10=.bool false:=hg 10 ⟨_,rfl,⟨10,.guard⟩,by simp,rfl,rfl⟩
   have h:=hK undef X rfl (br _ _)
   refine Zk rfl (by simp [Region.wanted,yielded,e10]) ?_
   clear hK hg hC
   go_simp
   simpa [updT,e13,e10] using h
  ·have e14:t 14=undef:=hg 14 (Wt rfl)
   have e10:t 10=.bool false:=hg 10 ⟨_,rfl,⟨10,.guard⟩,by simp,rfl,rfl⟩
   have h:=hK undef X rfl (br _ _)
   refine Zk rfl (by simp [Region.wanted,yielded,e10]) ?_
   clear hK hg hC
   go_simp
   simpa [updT,e14,e10] using h
 ·intro t X K hb hg hK
  have e10:t 10=.bool false:=hg 10 (by omega)
  have e15:t 15=undef:=hg 15 (by omega)
  have h:=hK _ X ⟨t,.bool false,rfl,rfl,hb⟩
  refine Zi rfl rfl ?_
  clear hK hg hC
  go_simp
  simpa [e10,e15] using h
 ·rintro a X ⟨t,v3,rfl,hp⟩
  exact hQ t v3 X hp
def Ew (S g off iq wn cap:Nat) (tx:ByteArray) (r:Rc) (p:RcP) (i:Nat) (v:Value) (_X:World):Prop:=
 match i with
 | 0=>v=.pointer (some ⟨S,6,none⟩)
 | 1=>v=.pointer (some ⟨S,8,none⟩)
 | 2=>v=.slice p.A.da r.dk.n p.A.dc
 | 3=>v=.pointer (some ⟨S,10,none⟩)
 | 4=>v=.slice (some ⟨g,off,none⟩) wn cap
 | 5=>v=.int .i64 (iq:Int)
 | 6=>v=.pointer (some ⟨g,off+iq,none⟩)
 | 7=>v=.string tx
 | 8=>v=.bool false
 | 9=>v=.bool true
 | 10=>v=.bool true
 | 11=>v=.pointer (some ⟨S,6,none⟩)
 | 12=>v=.pointer (some ⟨S,8,none⟩)
 | 13=>v=.slice p.A.da r.dk.n p.A.dc
 | 14=>v=.int .i64 (r.dk.n:Int)
 | 15=>v=.bool (decide ((r.dk.n:Int)<60))
 | _=>True
set_option maxRecDepth 100000 in
theorem OE (p0 p1 p3 p4 p5 p6 p8 p9 ze zc za zd zi zj zg zh zn zm zo zp zq yb yf ye z9 yd z8 z0 zu zy zt yg yi yj yh yk ym yo yp yq yv yw xx xy xc yu yx xb xd xg xk xe xh js x9 jk jj ji jl xw yz xi xm xa xf xj xl yy xn xp xq xr xu xt jt jr jq kf ke kk kq kh j0 j2 j6 jz jx jy jv x8 xz:Value) (w0 w1 w2 w3 w4 w5 w6 w7 w8 w9 w10 w11 w12 w13 w14 w15:Value) (S g off iq wn cap:Nat) (tx:ByteArray) (r:Rc) (p:RcP) (W:World) (hS:Bx W S (rcC r p.A)) (hgl:g<W.1.size) (hi:iq<wn) (_hwn:wn≤1000) (_hdn:r.dk.n≤60) (cS:W.cell? ⟨S,10,none⟩=some (.slice (some ⟨g,off,none⟩) wn cap)) (cg:W.cell? ⟨g,off+iq,none⟩=some (.string tx)) (hC:∀ X,Below W.1.size W X→Calls Tryz.prog 33 #[.slice p.A.da r.dk.n p.A.dc,.string tx] X fun e w'=>e=.returned (.bool false)∧Below X.1.size X w') (Q:Exit→Act→World→Prop) (hQ:∀ (t:Nat→Value) (v3:Value) X,v3=.bool (decide ((r.dk.n:Int)<60))∧Below W.1.size W X→Q .normal ⟨#[p0,p1,.pointer (some ⟨S,0,none⟩),p3,p4,p5,p6,.int .i64 (iq:Int),p8,p9,ze,zc,za,zd,zi,zj,zg,zh,zn,zm,zo,zp,zq,yb,yf,ye,z9,yd,z8,z0,zu,zy,zt,yg,yi,yj,yh,yk,ym,yo,t 0,t 1,t 2,t 3,t 4,t 5,t 6,t 7,t 8,t 9,t 10,t 11,t 12,t 13,t 14,t 15,v3,yq,yv,yw,xx,xy,xc,yu,yx,xb,xd,xg,xk,xe,xh,js,x9,jk,jj,ji,jl,xw,yz,xi,xm,xa,xf,xj,xl,yy,xn,xp,xq,xr,xu,xt,jt,jr,jq,kf,ke,kk,kq,kh,j0,j2,j6,jz,jx,jy,jv,x8,xz],[]⟩ X) :
  Code.wp Tryz.prog (Code.region 9 Gt true) Q ⟨#[p0,p1,.pointer (some ⟨S,0,none⟩),p3,p4,p5,p6,.int .i64 (iq:Int),p8,p9,ze,zc,za,zd,zi,zj,zg,zh,zn,zm,zo,zp,zq,yb,yf,ye,z9,yd,z8,z0,zu,zy,zt,yg,yi,yj,yh,yk,ym,yo,w0,w1,w2,w3,w4,w5,w6,w7,w8,w9,w10,w11,w12,w13,w14,w15,yp,yq,yv,yw,xx,xy,xc,yu,yx,xb,xd,xg,xk,xe,xh,js,x9,jk,jj,ji,jl,xw,yz,xi,xm,xa,xf,xj,xl,yy,xn,xp,xq,xr,xu,xt,jt,jr,jq,kf,ke,kk,kq,kh,j0,j2,j6,jz,jx,jy,jv,x8,xz],[]⟩ W:=by
 refine ZL (by kernel_rfl) 16 (fun t:Nat→Value=>#[p0,p1,.pointer (some ⟨S,0,none⟩),p3,p4,p5,p6,.int .i64 (iq:Int),p8,p9,ze,zc,za,zd,zi,zj,zg,zh,zn,zm,zo,zp,zq,yb,yf,ye,z9,yd,z8,z0,zu,zy,zt,yg,yi,yj,yh,yk,ym,yo,t 0,t 1,t 2,t 3,t 4,t 5,t 6,t 7,t 8,t 9,t 10,t 11,t 12,t 13,t 14,t 15,yp,yq,yv,yw,xx,xy,xc,yu,yx,xb,xd,xg,xk,xe,xh,js,x9,jk,jj,ji,jl,xw,yz,xi,xm,xa,xf,xj,xl,yy,xn,xp,xq,xr,xu,xt,jt,jr,jq,kf,ke,kk,kq,kh,j0,j2,j6,jz,jx,jy,jv,x8,xz]) (fun i=>match i with|0=>w0|1=>w1|2=>w2|3=>w3|4=>w4|5=>w5|6=>w6|7=>w7|8=>w8|9=>w9|10=>w10|11=>w11|12=>w12|13=>w13|14=>w14|_=>w15) (Ew S g off iq wn cap tx r p) (fun a X=>∃ (t:Nat→Value) (v3:Value),a=⟨#[p0,p1,.pointer (some ⟨S,0,none⟩),p3,p4,p5,p6,.int .i64 (iq:Int),p8,p9,ze,zc,za,zd,zi,zj,zg,zh,zn,zm,zo,zp,zq,yb,yf,ye,z9,yd,z8,z0,zu,zy,zt,yg,yi,yj,yh,yk,ym,yo,t 0,t 1,t 2,t 3,t 4,t 5,t 6,t 7,t 8,t 9,t 10,t 11,t 12,t 13,t 14,t 15,v3,yq,yv,yw,xx,xy,xc,yu,yx,xb,xd,xg,xk,xe,xh,js,x9,jk,jj,ji,jl,xw,yz,xi,xm,xa,xf,xj,xl,yy,xn,xp,xq,xr,xu,xt,jt,jr,jq,kf,ke,kk,kq,kh,j0,j2,j6,jz,jx,jy,jv,x8,xz],[]⟩∧v3=.bool (decide ((r.dk.n:Int)<60))∧Below W.1.size W X) (by kernel_rfl) (by kernel_rfl) (by kernel_rfl) ?_ rfl ?_ ?_ ?_
 ·exact fun _ _ _ _ _ h _=>h
 ·intro i hi t X K hb hg hK
  rcases (show i=0∨i=1∨i=2∨i=3∨i=4∨i=5∨i=6∨i=7∨i=8∨i=9∨i=10∨i=11∨i=12∨i=13∨i=14∨i=15 by omega) with rfl|rfl|rfl|rfl|rfl|rfl|rfl|rfl|rfl|rfl|rfl|rfl|rfl|rfl|rfl|rfl
  ·exact Jv
  ·exact Gc
  ·exact Ge
  ·exact Jv
  ·have e3:t 3=.pointer (some ⟨S,10,none⟩):=hg 3 (Wt rfl)
   have f1:=(hb.cell (p:=⟨S,10,none⟩) hS.lt).trans cS
   exact OZ
  ·exact Jv
  ·exact apVl8
  ·have e6:t 6=.pointer (some ⟨g,off+iq,none⟩):=hg 6 (Wt rfl)
   have f1:=(hb.cell (p:=⟨g,off+iq,none⟩) hgl).trans cg
   exact PQ
  ·have e2:t 2=.slice p.A.da r.dk.n p.A.dc:=hg 2 (Wt rfl)
   have e7:t 7=.string tx:=hg 7 (Wt rfl)
   have e2:t 2=.slice p.A.da r.dk.n p.A.dc:=hg 2 (Wt rfl)
   have e7:t 7=.string tx:=hg 7 (Wt rfl)
   refine Zi rfl rfl ?_
   have HK:=hid hK
   have HC:=hid (hC X hb)
   clear hK hg hC hQ
   simp only [e2,e7]
   go_simp
   go_at_call 33
   refine HC.out.mono ?_
   rintro e Y ⟨rfl,hbY⟩
   have h:=HK.out (.bool false) Y rfl hbY
   simpa [updT,e2,e7] using h
  ·have e8:t 8=.bool false:=hg 8 (Wt rfl)
   have h:=hK _ X rfl (br _ _)
   refine Zi rfl rfl ?_
   clear hK hg
   go_simp
   simpa [updT,e8] using h
  ·have e9:t 9=.bool true:=hg 9 (Wt rfl)
   have h:=hK _ X rfl (br _ _)
   refine Zi rfl rfl ?_
   clear hK hg
   go_simp
   simpa [updT,e9] using h
  ·have e10:t 10=.bool true:=hg 10 ⟨_,rfl,⟨10,.guard⟩,by simp,rfl,rfl⟩
   have h:=hK _ X rfl (br _ _)
   refine Za rfl (by simp [Region.wanted,yielded,e10]) ?_
   clear hK hg hC
   go_simp
   simpa [updT,e10] using h
  ·have e11:t 11=.pointer (some ⟨S,6,none⟩):=hg 11 (Wt rfl)
   have e10:t 10=.bool true:=hg 10 ⟨_,rfl,⟨10,.guard⟩,by simp,rfl,rfl⟩
   have h:=hK _ X rfl (br _ _)
   refine Za rfl (by simp [Region.wanted,yielded,e10]) ?_
   clear hK hg hC
   go_simp
   simpa [updT,e11,e10] using h
  ·have e12:t 12=.pointer (some ⟨S,8,none⟩):=hg 12 (Wt rfl)
   have e10:t 10=.bool true:=hg 10 ⟨_,rfl,⟨10,.guard⟩,by simp,rfl,rfl⟩
   have f1:=(hb.cell (p:=⟨S,8,none⟩) hS.lt).trans (hS.cell 8)
   have h:=hK _ X rfl (br _ _)
   refine Za rfl (by simp [Region.wanted,yielded,e10]) ?_
   clear hK hg hC
   go_simp
   simpa [updT,e12,e10] using h
  ·have e13:t 13=.slice p.A.da r.dk.n p.A.dc:=hg 13 (Wt rfl)
   have e10:t 10=.bool true:=hg 10 ⟨_,rfl,⟨10,.guard⟩,by simp,rfl,rfl⟩
   have h:=hK _ X rfl (br _ _)
   refine Za rfl (by simp [Region.wanted,yielded,e10]) ?_
   clear hK hg hC
   go_simp
   simpa [updT,e13,e10] using h
  ·have e14:t 14=.int .i64 (r.dk.n:Int):=hg 14 (Wt rfl)
   have e10:t 10=.bool true:=hg 10 ⟨_,rfl,⟨10,.guard⟩,by simp,rfl,rfl⟩
   have h:=hK _ X rfl (br _ _)
   refine Za rfl (by simp [Region.wanted,yielded,e10]) ?_
   clear hK hg hC
   go_simp
   simpa [updT,e14,e10] using h
 ·intro t X K hb hg hK
  have e10:t 10=.bool true:=hg 10 (by omega)
  have e15:t 15=.bool (decide ((r.dk.n:Int)<60)):=hg 15 (by omega)
  have h:=hK _ X ⟨t,.bool (decide ((r.dk.n:Int)<60)),rfl,rfl,hb⟩
  refine Zi rfl rfl ?_
  clear hK hg hC
  go_simp
  simpa [e10,e15] using h
 ·rintro a X ⟨t,v3,rfl,hp⟩
  exact hQ t v3 X hp
def Ey (S g off iq wn cap:Nat) (tx:ByteArray) (r:Rc) (p:RcP) (_r1:Rc) (_W:World) (i:Nat) (v:Value) (_X:World):Prop:=
 match i with
 | 0=>v=.agg (rcC r p.A)
 | 1=>v=.pointer (some ⟨S,6,none⟩)
 | 2=>v=.pointer (some ⟨S,8,none⟩)
 | 3=>v=.slice p.A.da r.dk.n p.A.dc
 | 4=>v=.int .i64 (r.dk.n:Int)
 | 5=>v=.int .i64 ((r.dk.n:Int)+1)
 | 6=>v=.pointer (some ⟨S,13,none⟩)
 | 7=>v=.int .i64 r.bal
 | 8=>v=.pointer (some ⟨S,10,none⟩)
 | 9=>v=.slice (some ⟨g,off,none⟩) wn cap
 | 10=>v=.int .i64 (iq:Int)
 | 11=>v=.pointer (some ⟨g,off+iq,none⟩)
 | 12=>v=.string tx
 | 13=>v=.agg #[.int .i64 r.bal,.string tx]
 | _=>True
theorem Gd {P:Prop} (h:P:=by
  exact Zi rfl rfl (wp_load_mid 38 _ rfl S 0 rfl (rcC r p.A).toList _ (Holds.range (cs:=(rcC r p.A).toList) (hS.below hb hS.lt).cell) Tryz.underlying38 rfl Tryz.sz38 (hK (.agg (rcC r p.A)) X rfl (br _ _)))):P:=h
theorem apVl7 {P:Prop} (h:P:=by
  rintro a X K ⟨t,p',rfl,hr⟩ hK
  obtain ⟨c,hc,hz⟩:=hT p' X hr
  exact YQ rfl rfl 38 _ _ rfl S (rcC r1 p'.A).toList rfl rfl hc hz Tryz.sz38 (by simp [Value.oneCell']) (fun V hv hf hs=>hK _ V ⟨t,_,rfl,p',X,hr,hv,hf,hs⟩)):P:=h
set_option maxRecDepth 100000 in
theorem Fv (p0 p1 p3 p4 p5 p6 p8 p9 ze zc za zd zi zj zg zh zn zm zo zp zq yb yf ye z9 yd z8 z0 zu zy zt yg yi yj yh yk ym yo yr yt xo jo jm jp j7 kj ko j8 j5 j9 kg kd jw ju yp js x9 jk jj ji jl xw yz xi xm xa xf xj xl yy xn xp xq xr xu xt jt jr jq kf ke kk kq kh j0 j2 j6 jz jx jy jv x8 xz:Value) (w0 w1 w2 w3 w4 w5 w6 w7 w8 w9 w10 w11 w12 w13:Value) (S g off iq wn cap:Nat) (tx:ByteArray) (r:Rc) (p:RcP) (r1:Rc) (W:World) (R:RcP→World→Prop) (hS:Bx W S (rcC r p.A)) (hgl:g<W.1.size) (hi:iq<wn) (_hwn:wn≤1000) (hdn:r.dk.n≤60) (cS:W.cell? ⟨S,10,none⟩=some (.slice (some ⟨g,off,none⟩) wn cap)) (cg:W.cell? ⟨g,off+iq,none⟩=some (.string tx)) (hQc:∀ X,Below W.1.size W X→Calls Tryz.prog 85 #[rcV r p.A,.int .i64 ((r.dk.n:Int)+1),.agg #[.int .i64 r.bal,.string tx]] X fun e w'=>∃ p',e=.returned (rcV r1 p'.A)∧R p' w') (hT:∀ p' Y,R p' Y→∃ c:Array Value,Bx Y S c∧c.size=18) (Q:Exit→Act→World→Prop) (hQ:∀ (t:Nat→Value) (v3:Value) X,(∃ p' Y,R p' Y∧Bx X S (rcC r1 p'.A)∧Fr S (S+1) Y X∧X.1.size=Y.1.size)→Q .normal ⟨#[p0,p1,.pointer (some ⟨S,0,none⟩),p3,p4,p5,p6,.int .i64 (iq:Int),p8,p9,ze,zc,za,zd,zi,zj,zg,zh,zn,zm,zo,zp,zq,yb,yf,ye,z9,yd,z8,z0,zu,zy,zt,yg,yi,yj,yh,yk,ym,yo,yr,yt,xo,jo,jm,jp,j7,kj,ko,j8,j5,j9,kg,kd,jw,ju,yp,t 0,t 1,t 2,t 3,t 4,t 5,t 6,t 7,t 8,t 9,t 10,t 11,t 12,t 13,v3,x9,jk,jj,ji,jl,xw,yz,xi,xm,xa,xf,xj,xl,yy,xn,xp,xq,xr,xu,xt,jt,jr,jq,kf,ke,kk,kq,kh,j0,j2,j6,jz,jx,jy,jv,x8,xz],[]⟩ X) :
  Code.wp Tryz.prog (Code.region 10 #[⟨some 57,.load 38 (.tmp 2),38,Qd,#[],none⟩,⟨some 58,.fieldAddr 38 (.tmp 2) 4,0,Qd,#[],none⟩,⟨some 59,.fieldAddr 34 (.tmp 58) 2,0,Qd,#[⟨1,.data⟩],none⟩,⟨some 60,.load 32 (.tmp 59),32,Qd,#[⟨2,.data⟩],none⟩,⟨some 61,.call ⟨.builtin .len,#[.tmp 60],#[32]⟩,3,Qd,#[⟨3,.data⟩],none⟩,⟨some 62,.binOp .add 3 (.tmp 61) (.const (.int .i64 1)) 3,3,Qd,#[⟨4,.data⟩],none⟩,⟨some 63,.fieldAddr 38 (.tmp 2) 9,0,Qd,#[],none⟩,⟨some 64,.load 3 (.tmp 63),3,Qd,#[⟨6,.data⟩],none⟩,⟨some 65,.fieldAddr 38 (.tmp 2) 6,0,Qd,#[],none⟩,⟨some 66,.load 26 (.tmp 65),26,Qd,#[⟨8,.data⟩],none⟩,⟨some 67,.move (.tmp 7),3,Qd,#[],none⟩,⟨some 68,.indexAddr 26 (.tmp 66) (.tmp 67),0,Qd,#[⟨9,.data⟩,⟨10,.data⟩],none⟩,⟨some 69,.load 9 (.tmp 68),9,Qd,#[⟨11,.data⟩],none⟩,⟨some 70,.build 109 #[(0,.tmp 64),(1,.tmp 69)],109,Qd,#[⟨7,.data⟩,⟨12,.data⟩],none⟩,⟨some 71,.call ⟨.value (.func 85),#[.tmp 57,.tmp 62,.tmp 70],#[38,3,109]⟩,38,Qd,#[⟨0,.data⟩,⟨5,.data⟩,⟨13,.data⟩],none⟩,⟨none,.store 38 (.tmp 2) (.tmp 71),0,Qd,#[⟨14,.data⟩,⟨14,.chain⟩,⟨0,.phase⟩,⟨1,.phase⟩,⟨2,.phase⟩,⟨3,.phase⟩,⟨4,.phase⟩,⟨5,.phase⟩,⟨6,.phase⟩,⟨7,.phase⟩,⟨8,.phase⟩,⟨9,.phase⟩,⟨10,.phase⟩,⟨11,.phase⟩,⟨12,.phase⟩,⟨13,.phase⟩,⟨14,.phase⟩],none⟩] true) Q ⟨#[p0,p1,.pointer (some ⟨S,0,none⟩),p3,p4,p5,p6,.int .i64 (iq:Int),p8,p9,ze,zc,za,zd,zi,zj,zg,zh,zn,zm,zo,zp,zq,yb,yf,ye,z9,yd,z8,z0,zu,zy,zt,yg,yi,yj,yh,yk,ym,yo,yr,yt,xo,jo,jm,jp,j7,kj,ko,j8,j5,j9,kg,kd,jw,ju,yp,w0,w1,w2,w3,w4,w5,w6,w7,w8,w9,w10,w11,w12,w13,js,x9,jk,jj,ji,jl,xw,yz,xi,xm,xa,xf,xj,xl,yy,xn,xp,xq,xr,xu,xt,jt,jr,jq,kf,ke,kk,kq,kh,j0,j2,j6,jz,jx,jy,jv,x8,xz],[]⟩ W:=by
 refine JY (by kernel_rfl) 14 (fun t:Nat→Value=>#[p0,p1,.pointer (some ⟨S,0,none⟩),p3,p4,p5,p6,.int .i64 (iq:Int),p8,p9,ze,zc,za,zd,zi,zj,zg,zh,zn,zm,zo,zp,zq,yb,yf,ye,z9,yd,z8,z0,zu,zy,zt,yg,yi,yj,yh,yk,ym,yo,yr,yt,xo,jo,jm,jp,j7,kj,ko,j8,j5,j9,kg,kd,jw,ju,yp,t 0,t 1,t 2,t 3,t 4,t 5,t 6,t 7,t 8,t 9,t 10,t 11,t 12,t 13,js,x9,jk,jj,ji,jl,xw,yz,xi,xm,xa,xf,xj,xl,yy,xn,xp,xq,xr,xu,xt,jt,jr,jq,kf,ke,kk,kq,kh,j0,j2,j6,jz,jx,jy,jv,x8,xz]) (fun i=>match i with|0=>w0|1=>w1|2=>w2|3=>w3|4=>w4|5=>w5|6=>w6|7=>w7|8=>w8|9=>w9|10=>w10|11=>w11|12=>w12|_=>w13) (Ey S g off iq wn cap tx r p r1 W) (fun a X=>∃ (t:Nat→Value) (p':RcP),a=⟨#[p0,p1,.pointer (some ⟨S,0,none⟩),p3,p4,p5,p6,.int .i64 (iq:Int),p8,p9,ze,zc,za,zd,zi,zj,zg,zh,zn,zm,zo,zp,zq,yb,yf,ye,z9,yd,z8,z0,zu,zy,zt,yg,yi,yj,yh,yk,ym,yo,yr,yt,xo,jo,jm,jp,j7,kj,ko,j8,j5,j9,kg,kd,jw,ju,yp,t 0,t 1,t 2,t 3,t 4,t 5,t 6,t 7,t 8,t 9,t 10,t 11,t 12,t 13,rcV r1 p'.A,x9,jk,jj,ji,jl,xw,yz,xi,xm,xa,xf,xj,xl,yy,xn,xp,xq,xr,xu,xt,jt,jr,jq,kf,ke,kk,kq,kh,j0,j2,j6,jz,jx,jy,jv,x8,xz],[]⟩∧R p' X) (fun a X=>∃ (t:Nat→Value) (v3:Value),a=⟨#[p0,p1,.pointer (some ⟨S,0,none⟩),p3,p4,p5,p6,.int .i64 (iq:Int),p8,p9,ze,zc,za,zd,zi,zj,zg,zh,zn,zm,zo,zp,zq,yb,yf,ye,z9,yd,z8,z0,zu,zy,zt,yg,yi,yj,yh,yk,ym,yo,yr,yt,xo,jo,jm,jp,j7,kj,ko,j8,j5,j9,kg,kd,jw,ju,yp,t 0,t 1,t 2,t 3,t 4,t 5,t 6,t 7,t 8,t 9,t 10,t 11,t 12,t 13,v3,x9,jk,jj,ji,jl,xw,yz,xi,xm,xa,xf,xj,xl,yy,xn,xp,xq,xr,xu,xt,jt,jr,jq,kf,ke,kk,kq,kh,j0,j2,j6,jz,jx,jy,jv,x8,xz],[]⟩∧(∃ p' Y,R p' Y∧Bx X S (rcC r1 p'.A)∧Fr S (S+1) Y X∧X.1.size=Y.1.size)) (by kernel_rfl) (by kernel_rfl) (by kernel_rfl) (by kernel_rfl) ?_ rfl ?_ ?_ ?_ ?_
 ·exact fun _ _ _ _ _ h _=>h
 ·intro i hi t X K hb hg hK
  rcases (show i=0∨i=1∨i=2∨i=3∨i=4∨i=5∨i=6∨i=7∨i=8∨i=9∨i=10∨i=11∨i=12∨i=13 by omega) with rfl|rfl|rfl|rfl|rfl|rfl|rfl|rfl|rfl|rfl|rfl|rfl|rfl|rfl
  ·exact Gd
  ·exact Jv
  ·have e1:t 1=.pointer (some ⟨S,6,none⟩):=hg 1 (Wt rfl)
   have h:=hK _ X rfl (br _ _)
   refine Zi rfl rfl ?_
   clear hK hg
   go_simp
   simpa [updT,e1] using h
  ·have e2:t 2=.pointer (some ⟨S,8,none⟩):=hg 2 (Wt rfl)
   have f1:=(hb.cell (p:=⟨S,8,none⟩) hS.lt).trans (hS.cell 8)
   have h:=hK _ X rfl (br _ _)
   refine Zi rfl rfl ?_
   clear hK hg
   go_simp
   simpa [updT,e2] using h
  ·have e3:t 3=.slice p.A.da r.dk.n p.A.dc:=hg 3 (Wt rfl)
   exact OZ
  ·have e4:t 4=.int .i64 (r.dk.n:Int):=hg 4 (Wt rfl)
   have e9:t 4=.int .i64 (r.dk.n:Int):=hg 4 (Wt rfl)
   have h:=hK _ X rfl (br _ _)
   refine Zi rfl rfl ?_
   clear hK hg
   have hw:IntKind.i64.wrap ((r.dk.n:Int)+1)=(r.dk.n:Int)+1:=by rw [IntKind.wrap_i64];omega
   simp only [e9]
   go_simp
   simpa [updT,e9,hw] using h
  ·exact Jv
  ·have e6:t 6=.pointer (some ⟨S,13,none⟩):=hg 6 (Wt rfl)
   have f1:=(hb.cell (p:=⟨S,13,none⟩) hS.lt).trans (hS.cell 13)
   exact PQ
  ·exact Jv
  ·have e8:t 8=.pointer (some ⟨S,10,none⟩):=hg 8 (Wt rfl)
   have f1:=(hb.cell (p:=⟨S,10,none⟩) hS.lt).trans cS
   have h:=hK _ X rfl (br _ _)
   refine Zi rfl rfl ?_
   clear hK hg
   go_simp
   simpa [updT,e8] using h
  ·exact Jv
  ·have e9:t 9=.slice (some ⟨g,off,none⟩) wn cap:=hg 9 (Wt rfl)
   have e10:t 10=.int .i64 (iq:Int):=hg 10 (Wt rfl)
   have hi2:=hi
   have h:=hK _ X rfl (br _ _)
   refine Zi rfl rfl ?_
   clear hK hg
   go_simp
   simpa [updT,e9,e10] using h
  ·have e11:t 11=.pointer (some ⟨g,off+iq,none⟩):=hg 11 (Wt rfl)
   have f1:=(hb.cell (p:=⟨g,off+iq,none⟩) hgl).trans cg
   have h:=hK _ X rfl (br _ _)
   refine Zi rfl rfl ?_
   clear hK hg
   go_simp
   simpa [updT,e11] using h
  ·have e7:t 7=.int .i64 r.bal:=hg 7 (Wt rfl)
   have e12:t 12=.string tx:=hg 12 (Wt rfl)
   have h:=hK _ X rfl (br _ _)
   refine Zi rfl rfl ?_
   clear hK hg
   go_simp
   simpa [updT,e7,e12] using h
 ·intro t X K hb hg hK
  have e0:t 0=.agg (rcC r p.A):=hg 0 (by omega)
  have e5:t 5=.int .i64 ((r.dk.n:Int)+1):=hg 5 (by omega)
  have e13:t 13=.agg #[.int .i64 r.bal,.string tx]:=hg 13 (by omega)
  refine Zi rfl rfl ?_
  have HK:=hid hK
  have HC:=hid (hQc X hb)
  clear hK hg hQc hQ hT
  simp only [e0,e5,e13]
  go_simp
  go_at_call 85
  refine HC.out.mono ?_
  rintro e Y ⟨p',rfl,hr⟩
  have h:=HK.out _ Y ⟨t,p',rfl,hr⟩
  simpa [e0,e5,e13] using h
 ·exact apVl7
 ·rintro a X ⟨t,v3,rfl,hp⟩
  exact hQ t v3 X hp
def Ex (S g iq dn cap:Nat) (tx:ByteArray) (o:Value) (r:Rc) (p:RcP) (_R:Value→World→Prop) (i:Nat) (v:Value) (_X:World):Prop:=
 match i with
 | 0=>v=.agg (rcC r p.A)
 | 1=>v=o
 | 2=>v=.pointer (some ⟨S,13,none⟩)
 | 3=>v=.int .i64 r.bal
 | 4=>v=.int .i64 (iq:Int)
 | 5=>v=.int .i64 ((iq:Int)+1)
 | 6=>v=.pointer (some ⟨S,6,none⟩)
 | 7=>v=.pointer (some ⟨S,8,none⟩)
 | 8=>v=.slice (some ⟨g,0,none⟩) dn cap
 | 9=>v=.int .i64 (iq:Int)
 | 10=>v=.pointer (some ⟨g,iq*2,none⟩)
 | 11=>v=.pointer (some ⟨g,iq*2+1,none⟩)
 | 12=>v=.string tx
 | 13=>v=.agg #[.int .i64 3,.int .i64 0,.int .i64 0,.int .i64 r.bal,.int .i64 ((iq:Int)+1),.int .i64 0,.string tx,.slice none 0 0]
 | _=>True
set_option maxRecDepth 100000 in
theorem Fu (p0 p3 p4 p5 p6 p7 p9 ze zc za zd zi zj zg zh zn zm zo zp zq yb yf ye z9 yd z8 z0 zu zy zt yg yi yj yh yk ym yo yr yt xo jo jm jp j7 kj ko j8 j5 j9 kg kd jw ju yp yq yv yw xx xy xc yu yx xb xd xg xk xe xh js x9 jk jj ji jl xw yz xi xm xa xf xj xl yy xn xp xq xr xu xt jv x8 xz:Value) (w0 w1 w2 w3 w4 w5 w6 w7 w8 w9 w10 w11 w12 w13:Value) (S g iq dn cap:Nat) (tx:ByteArray) (o:Value) (r:Rc) (p:RcP) (R:Value→World→Prop) (W:World) (hS:Bx W S (rcC r p.A)) (hgl:g<W.1.size) (hi:iq<dn) (hdn:dn≤1000) (cS:W.cell? ⟨S,8,none⟩=some (.slice (some ⟨g,0,none⟩) dn cap)) (cg:W.cell? ⟨g,iq*2+1,none⟩=some (.string tx)) (hQc:∀ X,Below W.1.size W X→Calls Tryz.prog 39 #[rcV r p.A,o,.agg #[.int .i64 3,.int .i64 0,.int .i64 0,.int .i64 r.bal,.int .i64 ((iq:Int)+1),.int .i64 0,.string tx,.slice none 0 0]] X fun e w'=>∃ o',e=.returned o'∧R o' w') (Q:Exit→Act→World→Prop) (hQ:∀ (t:Nat→Value) (v3:Value) X,R v3 X→Q .normal ⟨#[p0,v3,.pointer (some ⟨S,0,none⟩),p3,p4,p5,p6,p7,.int .i64 (iq:Int),p9,ze,zc,za,zd,zi,zj,zg,zh,zn,zm,zo,zp,zq,yb,yf,ye,z9,yd,z8,z0,zu,zy,zt,yg,yi,yj,yh,yk,ym,yo,yr,yt,xo,jo,jm,jp,j7,kj,ko,j8,j5,j9,kg,kd,jw,ju,yp,yq,yv,yw,xx,xy,xc,yu,yx,xb,xd,xg,xk,xe,xh,js,x9,jk,jj,ji,jl,xw,yz,xi,xm,xa,xf,xj,xl,yy,xn,xp,xq,xr,xu,xt,t 0,t 1,t 2,t 3,t 4,t 5,t 6,t 7,t 8,t 9,t 10,t 11,t 12,t 13,v3,x8,xz],[]⟩ X) :
  Code.wp Tryz.prog (Code.region 15 #[⟨some 92,.load 38 (.tmp 2),38,Qe,#[],none⟩,⟨some 93,.move (.tmp 1),35,Qe,#[],none⟩,⟨some 94,.fieldAddr 38 (.tmp 2) 9,0,Qe,#[],none⟩,⟨some 95,.load 3 (.tmp 94),3,Qe,#[⟨2,.data⟩],none⟩,⟨some 96,.move (.tmp 8),3,Qe,#[],none⟩,⟨some 97,.binOp .add 3 (.tmp 96) (.const (.int .i64 1)) 3,3,Qe,#[⟨4,.data⟩],none⟩,⟨some 98,.fieldAddr 38 (.tmp 2) 4,0,Qe,#[],none⟩,⟨some 99,.fieldAddr 34 (.tmp 98) 2,0,Qe,#[⟨6,.data⟩],none⟩,⟨some 100,.load 32 (.tmp 99),32,Qe,#[⟨7,.data⟩],none⟩,⟨some 101,.move (.tmp 8),3,Qe,#[],none⟩,⟨some 102,.indexAddr 32 (.tmp 100) (.tmp 101),0,Qe,#[⟨8,.data⟩,⟨9,.data⟩],none⟩,⟨some 103,.fieldAddr 109 (.tmp 102) 1,0,Qe,#[⟨10,.data⟩],none⟩,⟨some 104,.load 9 (.tmp 103),9,Qe,#[⟨11,.data⟩],none⟩,⟨some 105,.build 52 #[(0,.const (.int .i64 3)),(3,.tmp 95),(4,.tmp 97),(6,.tmp 104)],52,Qe,#[⟨3,.data⟩,⟨5,.data⟩,⟨12,.data⟩],none⟩,⟨some 106,.call ⟨.value (.func 39),#[.tmp 92,.tmp 93,.tmp 105],#[38,35,52]⟩,35,Qe,#[⟨0,.data⟩,⟨1,.data⟩,⟨13,.data⟩],none⟩,⟨some 1,.assign (.tmp 106),35,Qe,#[⟨14,.data⟩,⟨14,.chain⟩,⟨0,.phase⟩,⟨1,.phase⟩,⟨2,.phase⟩,⟨3,.phase⟩,⟨4,.phase⟩,⟨5,.phase⟩,⟨6,.phase⟩,⟨7,.phase⟩,⟨8,.phase⟩,⟨9,.phase⟩,⟨10,.phase⟩,⟨11,.phase⟩,⟨12,.phase⟩,⟨13,.phase⟩,⟨14,.phase⟩],none⟩] true) Q ⟨#[p0,o,.pointer (some ⟨S,0,none⟩),p3,p4,p5,p6,p7,.int .i64 (iq:Int),p9,ze,zc,za,zd,zi,zj,zg,zh,zn,zm,zo,zp,zq,yb,yf,ye,z9,yd,z8,z0,zu,zy,zt,yg,yi,yj,yh,yk,ym,yo,yr,yt,xo,jo,jm,jp,j7,kj,ko,j8,j5,j9,kg,kd,jw,ju,yp,yq,yv,yw,xx,xy,xc,yu,yx,xb,xd,xg,xk,xe,xh,js,x9,jk,jj,ji,jl,xw,yz,xi,xm,xa,xf,xj,xl,yy,xn,xp,xq,xr,xu,xt,w0,w1,w2,w3,w4,w5,w6,w7,w8,w9,w10,w11,w12,w13,jv,x8,xz],[]⟩ W:=by
 refine JY (by kernel_rfl) 14 (fun t:Nat→Value=>#[p0,o,.pointer (some ⟨S,0,none⟩),p3,p4,p5,p6,p7,.int .i64 (iq:Int),p9,ze,zc,za,zd,zi,zj,zg,zh,zn,zm,zo,zp,zq,yb,yf,ye,z9,yd,z8,z0,zu,zy,zt,yg,yi,yj,yh,yk,ym,yo,yr,yt,xo,jo,jm,jp,j7,kj,ko,j8,j5,j9,kg,kd,jw,ju,yp,yq,yv,yw,xx,xy,xc,yu,yx,xb,xd,xg,xk,xe,xh,js,x9,jk,jj,ji,jl,xw,yz,xi,xm,xa,xf,xj,xl,yy,xn,xp,xq,xr,xu,xt,t 0,t 1,t 2,t 3,t 4,t 5,t 6,t 7,t 8,t 9,t 10,t 11,t 12,t 13,jv,x8,xz]) (fun i=>match i with|0=>w0|1=>w1|2=>w2|3=>w3|4=>w4|5=>w5|6=>w6|7=>w7|8=>w8|9=>w9|10=>w10|11=>w11|12=>w12|_=>w13) (Ex S g iq dn cap tx o r p R) (fun a X=>∃ (t:Nat→Value) (v3:Value),a=⟨#[p0,o,.pointer (some ⟨S,0,none⟩),p3,p4,p5,p6,p7,.int .i64 (iq:Int),p9,ze,zc,za,zd,zi,zj,zg,zh,zn,zm,zo,zp,zq,yb,yf,ye,z9,yd,z8,z0,zu,zy,zt,yg,yi,yj,yh,yk,ym,yo,yr,yt,xo,jo,jm,jp,j7,kj,ko,j8,j5,j9,kg,kd,jw,ju,yp,yq,yv,yw,xx,xy,xc,yu,yx,xb,xd,xg,xk,xe,xh,js,x9,jk,jj,ji,jl,xw,yz,xi,xm,xa,xf,xj,xl,yy,xn,xp,xq,xr,xu,xt,t 0,t 1,t 2,t 3,t 4,t 5,t 6,t 7,t 8,t 9,t 10,t 11,t 12,t 13,v3,x8,xz],[]⟩∧R v3 X) (fun a X=>∃ (t:Nat→Value) (v3:Value),a=⟨#[p0,v3,.pointer (some ⟨S,0,none⟩),p3,p4,p5,p6,p7,.int .i64 (iq:Int),p9,ze,zc,za,zd,zi,zj,zg,zh,zn,zm,zo,zp,zq,yb,yf,ye,z9,yd,z8,z0,zu,zy,zt,yg,yi,yj,yh,yk,ym,yo,yr,yt,xo,jo,jm,jp,j7,kj,ko,j8,j5,j9,kg,kd,jw,ju,yp,yq,yv,yw,xx,xy,xc,yu,yx,xb,xd,xg,xk,xe,xh,js,x9,jk,jj,ji,jl,xw,yz,xi,xm,xa,xf,xj,xl,yy,xn,xp,xq,xr,xu,xt,t 0,t 1,t 2,t 3,t 4,t 5,t 6,t 7,t 8,t 9,t 10,t 11,t 12,t 13,v3,x8,xz],[]⟩∧R v3 X) (by kernel_rfl) (by kernel_rfl) (by kernel_rfl) (by kernel_rfl) ?_ rfl ?_ ?_ ?_ ?_
 ·exact fun _ _ _ _ _ h _=>h
 ·intro i hi t X K hb hg hK
  rcases (show i=0∨i=1∨i=2∨i=3∨i=4∨i=5∨i=6∨i=7∨i=8∨i=9∨i=10∨i=11∨i=12∨i=13 by omega) with rfl|rfl|rfl|rfl|rfl|rfl|rfl|rfl|rfl|rfl|rfl|rfl|rfl|rfl
  ·exact Gd
  ·exact Jv
  ·exact Jv
  ·have e2:t 2=.pointer (some ⟨S,13,none⟩):=hg 2 (Wt rfl)
   have f1:=(hb.cell (p:=⟨S,13,none⟩) hS.lt).trans (hS.cell 13)
   have h:=hK _ X rfl (br _ _)
   refine Zi rfl rfl ?_
   clear hK hg
   go_simp
   simpa [updT,e2] using h
  ·exact Jv
  ·have e4:t 4=.int .i64 (iq:Int):=hg 4 (Wt rfl)
   have e9:t 4=.int .i64 (iq:Int):=hg 4 (Wt rfl)
   have h:=hK _ X rfl (br _ _)
   refine Zi rfl rfl ?_
   clear hK hg
   have hw:IntKind.i64.wrap ((iq:Int)+1)=(iq:Int)+1:=by rw [IntKind.wrap_i64];omega
   simp only [e9]
   go_simp
   simpa [updT,e9,hw] using h
  ·exact Jv
  ·have e6:t 6=.pointer (some ⟨S,6,none⟩):=hg 6 (Wt rfl)
   exact PQ
  ·have e7:t 7=.pointer (some ⟨S,8,none⟩):=hg 7 (Wt rfl)
   have f1:=(hb.cell (p:=⟨S,8,none⟩) hS.lt).trans cS
   have h:=hK _ X rfl (br _ _)
   refine Zi rfl rfl ?_
   clear hK hg
   go_simp
   simpa [updT,e7] using h
  ·exact Jv
  ·have e8:t 8=.slice (some ⟨g,0,none⟩) dn cap:=hg 8 (Wt rfl)
   have e9:t 9=.int .i64 (iq:Int):=hg 9 (Wt rfl)
   have hi2:=hi
   have h:=hK _ X rfl (br _ _)
   refine Zi rfl rfl ?_
   clear hK hg
   go_simp
   simpa [updT,e8,e9] using h
  ·have e10:t 10=.pointer (some ⟨g,iq*2,none⟩):=hg 10 (Wt rfl)
   have h:=hK _ X rfl (br _ _)
   refine Zi rfl rfl ?_
   clear hK hg
   go_simp
   simpa [updT,e10] using h
  ·have e11:t 11=.pointer (some ⟨g,iq*2+1,none⟩):=hg 11 (Wt rfl)
   have f1:=(hb.cell (p:=⟨g,iq*2+1,none⟩) hgl).trans cg
   have h:=hK _ X rfl (br _ _)
   refine Zi rfl rfl ?_
   clear hK hg
   go_simp
   simpa [updT,e11] using h
  ·have e3:t 3=.int .i64 r.bal:=hg 3 (Wt rfl)
   have e5:t 5=.int .i64 ((iq:Int)+1):=hg 5 (Wt rfl)
   have e12:t 12=.string tx:=hg 12 (Wt rfl)
   have h:=hK _ X rfl (br _ _)
   refine Zi rfl rfl ?_
   clear hK hg
   go_simp
   simpa [updT,e3,e5,e12] using h
 ·intro t X K hb hg hK
  have e0:t 0=.agg (rcC r p.A):=hg 0 (by omega)
  have e1:t 1=o:=hg 1 (by omega)
  have e13:t 13=.agg #[.int .i64 3,.int .i64 0,.int .i64 0,.int .i64 r.bal,.int .i64 ((iq:Int)+1),.int .i64 0,.string tx,.slice none 0 0]:=hg 13 (by omega)
  refine Zi rfl rfl ?_
  have HK:=hid hK
  have HC:=hid (hQc X hb)
  clear hK hg hQc hQ
  simp only [e0,e1,e13]
  go_simp
  go_at_call 39
  refine HC.out.mono ?_
  rintro e Y ⟨o',rfl,hr⟩
  have h:=HK.out _ Y ⟨t,o',rfl,hr⟩
  simpa [e0,e1,e13] using h
 ·rintro a X K ⟨t,v3,rfl,hp⟩ hK
  have h:=hK ⟨#[p0,v3,.pointer (some ⟨S,0,none⟩),p3,p4,p5,p6,p7,.int .i64 (iq:Int),p9,ze,zc,za,zd,zi,zj,zg,zh,zn,zm,zo,zp,zq,yb,yf,ye,z9,yd,z8,z0,zu,zy,zt,yg,yi,yj,yh,yk,ym,yo,yr,yt,xo,jo,jm,jp,j7,kj,ko,j8,j5,j9,kg,kd,jw,ju,yp,yq,yv,yw,xx,xy,xc,yu,yx,xb,xd,xg,xk,xe,xh,js,x9,jk,jj,ji,jl,xw,yz,xi,xm,xa,xf,xj,xl,yy,xn,xp,xq,xr,xu,xt,t 0,t 1,t 2,t 3,t 4,t 5,t 6,t 7,t 8,t 9,t 10,t 11,t 12,t 13,v3,x8,xz],[]⟩ X ⟨t,v3,rfl,hp⟩
  refine Zi rfl rfl ?_
  clear hK
  go_simp
  exact h
 ·rintro a X ⟨t,v3,rfl,hp⟩
  exact hQ t v3 X hp
def En (S g off iq wn cap kn:Nat) (hs:Bool) (tx:ByteArray) (r:Rc) (p:RcP) (i:Nat) (v:Value) (_X:World):Prop:=
 match i with
 | 0=>v=.pointer (some ⟨S,6,none⟩)
 | 1=>v=.pointer (some ⟨S,8,none⟩)
 | 2=>v=.slice p.A.da r.dk.n p.A.dc
 | 3=>v=.pointer (some ⟨S,6,none⟩)
 | 4=>v=.pointer (some ⟨S,7,none⟩)
 | 5=>v=.int .i64 (kn:Int)
 | 6=>v=.slice p.A.da kn p.A.dc
 | 7=>v=.pointer (some ⟨S,10,none⟩)
 | 8=>v=.slice (some ⟨g,off,none⟩) wn cap
 | 9=>v=.int .i64 (iq:Int)
 | 10=>v=.pointer (some ⟨g,off+iq,none⟩)
 | 11=>v=.string tx
 | 12=>v=.bool hs
 | _=>True
set_option maxRecDepth 100000 in
theorem Ok (p0 p1 p2 p3 p4 p6 p8 p9 ze zc za zd zi zj zg zh zn zm zo zp zq yb yf ye z9 yd z8 z0 zu zy zt yg yi yj yh yk ym yo yr yt ju yp yq yv yw xx xy xc yu yx xb xd xg xk xe xh js x9 jk jj ji jl xw yz xi xm xa xf xj xl yy xn xp xq xr xu xt jt jr jq kf ke kk kq kh j0 j2 j6 jz jx jy jv x8 xz kt kr kv qu kz ql qn qg qi qx qy qv qw vk vi qd qm vf qj vj qs qp kx qo vg qr qe qq vh ky vq vn vo vp vr vm qt ve qz qk:Value) (w0 w1 w2 w3 w4 w5 w6 w7 w8 w9 w10 w11 w12:Value) (S g off iq wn cap kn:Nat) (hs:Bool) (tx:ByteArray) (r:Rc) (p:RcP) (W:World) (hS:Bx W S (rcC r p.A)) (hgl:g<W.1.size) (hi:iq<wn) (_hwn:wn≤1000) (hkn:kn≤r.dk.n) (hdc:r.dk.n≤p.A.dc) (hda:(∃ g1,p.A.da=some ⟨g1,0,none⟩)∨(p.A.da=none∧r.dk.n=0∧p.A.dc=0)) (cK:W.cell? ⟨S,7,none⟩=some (.int .i64 (kn:Int))) (cS:W.cell? ⟨S,10,none⟩=some (.slice (some ⟨g,off,none⟩) wn cap)) (cg:W.cell? ⟨g,off+iq,none⟩=some (.string tx)) (hC:∀ X,Below W.1.size W X→Calls Tryz.prog 33 #[.slice p.A.da kn p.A.dc,.string tx] X fun e w'=>e=.returned (.bool hs)∧Below X.1.size X w') (Q:Exit→Act→World→Prop) (hQ:∀ (t:Nat→Value) (v3:Value) X,v3=.bool (!hs)∧Below W.1.size W X→Q .normal ⟨#[p0,p1,p2,p3,p4,.pointer (some ⟨S,0,none⟩),p6,.int .i64 (iq:Int),p8,p9,ze,zc,za,zd,zi,zj,zg,zh,zn,zm,zo,zp,zq,yb,yf,ye,z9,yd,z8,z0,zu,zy,zt,yg,yi,yj,yh,yk,ym,yo,yr,yt,t 0,t 1,t 2,t 3,t 4,t 5,t 6,t 7,t 8,t 9,t 10,t 11,t 12,v3,yp,yq,yv,yw,xx,xy,xc,yu,yx,xb,xd,xg,xk,xe,xh,js,x9,jk,jj,ji,jl,xw,yz,xi,xm,xa,xf,xj,xl,yy,xn,xp,xq,xr,xu,xt,jt,jr,jq,kf,ke,kk,kq,kh,j0,j2,j6,jz,jx,jy,jv,x8,xz,kt,kr,kv,qu,kz,ql,qn,qg,qi,qx,qy,qv,qw,vk,vi,qd,qm,vf,qj,vj,qs,qp,kx,qo,vg,qr,qe,qq,vh,ky,vq,vn,vo,vp,vr,vm,qt,ve,qz,qk],[]⟩ X) :
  Code.wp Tryz.prog (Code.region 14 #[⟨some 42,.fieldAddr 38 (.tmp 5) 4,0,Qf,#[],none⟩,⟨some 43,.fieldAddr 34 (.tmp 42) 2,0,Qf,#[⟨0,.data⟩],none⟩,⟨some 44,.load 32 (.tmp 43),32,Qf,#[⟨1,.data⟩],none⟩,⟨some 45,.fieldAddr 38 (.tmp 5) 4,0,Qf,#[],none⟩,⟨some 46,.fieldAddr 34 (.tmp 45) 1,0,Qf,#[⟨3,.data⟩],none⟩,⟨some 47,.load 3 (.tmp 46),3,Qf,#[⟨4,.data⟩],none⟩,⟨some 48,.slice 32 (.tmp 44) none (some (.tmp 47)) none,32,Qf,#[⟨2,.data⟩,⟨5,.data⟩],none⟩,⟨some 49,.fieldAddr 38 (.tmp 5) 6,0,Qf,#[],none⟩,⟨some 50,.load 26 (.tmp 49),26,Qf,#[⟨7,.data⟩],none⟩,⟨some 51,.move (.tmp 7),3,Qf,#[],none⟩,⟨some 52,.indexAddr 26 (.tmp 50) (.tmp 51),0,Qf,#[⟨8,.data⟩,⟨9,.data⟩],none⟩,⟨some 53,.load 9 (.tmp 52),9,Qf,#[⟨10,.data⟩],none⟩,⟨some 54,.call ⟨.value (.func 33),#[.tmp 48,.tmp 53],#[32,9]⟩,4,Qf,#[⟨6,.data⟩,⟨11,.data⟩],none⟩,⟨some 55,.unOp .not 4 (.tmp 54),4,Qf,#[⟨12,.data⟩],none⟩] true) Q ⟨#[p0,p1,p2,p3,p4,.pointer (some ⟨S,0,none⟩),p6,.int .i64 (iq:Int),p8,p9,ze,zc,za,zd,zi,zj,zg,zh,zn,zm,zo,zp,zq,yb,yf,ye,z9,yd,z8,z0,zu,zy,zt,yg,yi,yj,yh,yk,ym,yo,yr,yt,w0,w1,w2,w3,w4,w5,w6,w7,w8,w9,w10,w11,w12,ju,yp,yq,yv,yw,xx,xy,xc,yu,yx,xb,xd,xg,xk,xe,xh,js,x9,jk,jj,ji,jl,xw,yz,xi,xm,xa,xf,xj,xl,yy,xn,xp,xq,xr,xu,xt,jt,jr,jq,kf,ke,kk,kq,kh,j0,j2,j6,jz,jx,jy,jv,x8,xz,kt,kr,kv,qu,kz,ql,qn,qg,qi,qx,qy,qv,qw,vk,vi,qd,qm,vf,qj,vj,qs,qp,kx,qo,vg,qr,qe,qq,vh,ky,vq,vn,vo,vp,vr,vm,qt,ve,qz,qk],[]⟩ W:=by
 refine ZL (by kernel_rfl) 13 (fun t:Nat→Value=>#[p0,p1,p2,p3,p4,.pointer (some ⟨S,0,none⟩),p6,.int .i64 (iq:Int),p8,p9,ze,zc,za,zd,zi,zj,zg,zh,zn,zm,zo,zp,zq,yb,yf,ye,z9,yd,z8,z0,zu,zy,zt,yg,yi,yj,yh,yk,ym,yo,yr,yt,t 0,t 1,t 2,t 3,t 4,t 5,t 6,t 7,t 8,t 9,t 10,t 11,t 12,ju,yp,yq,yv,yw,xx,xy,xc,yu,yx,xb,xd,xg,xk,xe,xh,js,x9,jk,jj,ji,jl,xw,yz,xi,xm,xa,xf,xj,xl,yy,xn,xp,xq,xr,xu,xt,jt,jr,jq,kf,ke,kk,kq,kh,j0,j2,j6,jz,jx,jy,jv,x8,xz,kt,kr,kv,qu,kz,ql,qn,qg,qi,qx,qy,qv,qw,vk,vi,qd,qm,vf,qj,vj,qs,qp,kx,qo,vg,qr,qe,qq,vh,ky,vq,vn,vo,vp,vr,vm,qt,ve,qz,qk]) (fun i=>match i with|0=>w0|1=>w1|2=>w2|3=>w3|4=>w4|5=>w5|6=>w6|7=>w7|8=>w8|9=>w9|10=>w10|11=>w11|_=>w12) (En S g off iq wn cap kn hs tx r p) (fun a X=>∃ (t:Nat→Value) (v3:Value),a=⟨#[p0,p1,p2,p3,p4,.pointer (some ⟨S,0,none⟩),p6,.int .i64 (iq:Int),p8,p9,ze,zc,za,zd,zi,zj,zg,zh,zn,zm,zo,zp,zq,yb,yf,ye,z9,yd,z8,z0,zu,zy,zt,yg,yi,yj,yh,yk,ym,yo,yr,yt,t 0,t 1,t 2,t 3,t 4,t 5,t 6,t 7,t 8,t 9,t 10,t 11,t 12,v3,yp,yq,yv,yw,xx,xy,xc,yu,yx,xb,xd,xg,xk,xe,xh,js,x9,jk,jj,ji,jl,xw,yz,xi,xm,xa,xf,xj,xl,yy,xn,xp,xq,xr,xu,xt,jt,jr,jq,kf,ke,kk,kq,kh,j0,j2,j6,jz,jx,jy,jv,x8,xz,kt,kr,kv,qu,kz,ql,qn,qg,qi,qx,qy,qv,qw,vk,vi,qd,qm,vf,qj,vj,qs,qp,kx,qo,vg,qr,qe,qq,vh,ky,vq,vn,vo,vp,vr,vm,qt,ve,qz,qk],[]⟩∧v3=.bool (!hs)∧Below W.1.size W X) (by kernel_rfl) (by kernel_rfl) (by kernel_rfl) ?_ rfl ?_ ?_ ?_
 ·exact fun _ _ _ _ _ h _=>h
 ·intro i hi t X K hb hg hK
  rcases (show i=0∨i=1∨i=2∨i=3∨i=4∨i=5∨i=6∨i=7∨i=8∨i=9∨i=10∨i=11∨i=12 by omega) with rfl|rfl|rfl|rfl|rfl|rfl|rfl|rfl|rfl|rfl|rfl|rfl|rfl
  ·exact Jv
  ·exact Gc
  ·exact Ge
  ·exact Jv
  ·have e3:t 3=.pointer (some ⟨S,6,none⟩):=hg 3 (Wt rfl)
   exact OZ
  ·have e4:t 4=.pointer (some ⟨S,7,none⟩):=hg 4 (Wt rfl)
   have f1:=(hb.cell (p:=⟨S,7,none⟩) hS.lt).trans cK
   have h:=hK _ X rfl (br _ _)
   refine Zi rfl rfl ?_
   clear hK hg
   go_simp
   simpa [updT,e4] using h
  ·have e2:t 2=.slice p.A.da r.dk.n p.A.dc:=hg 2 (Wt rfl)
   have e5:t 5=.int .i64 (kn:Int):=hg 5 (Wt rfl)
   have e2:t 2=.slice p.A.da r.dk.n p.A.dc:=hg 2 (Wt rfl)
   have e5:t 5=.int .i64 (kn:Int):=hg 5 (Wt rfl)
   have h:=hK _ X rfl (br _ _)
   refine Zi rfl rfl ?_
   clear hK hg hC hQ
   simp only [e2,e5]
   rcases hda with ⟨g1,hda⟩|⟨hda,hz1,hz2⟩
   ·rw [hda] at h ⊢
    go_simp
    rw [if_pos (by omega),Oper.upon_value]
    go_simp
    simpa [updT,e2,e5,hda] using h
   ·have hk0:kn=0:=by omega
    rw [hda,hz2,hk0] at h ⊢
    go_simp
    simpa [updT,e2,e5,hda,hz1,hz2,hk0] using h
  ·exact Jv
  ·have e7:t 7=.pointer (some ⟨S,10,none⟩):=hg 7 (Wt rfl)
   have f1:=(hb.cell (p:=⟨S,10,none⟩) hS.lt).trans cS
   have h:=hK _ X rfl (br _ _)
   refine Zi rfl rfl ?_
   clear hK hg
   go_simp
   simpa [updT,e7] using h
  ·exact Jv
  ·have e8:t 8=.slice (some ⟨g,off,none⟩) wn cap:=hg 8 (Wt rfl)
   have e9:t 9=.int .i64 (iq:Int):=hg 9 (Wt rfl)
   have hi2:=hi
   have h:=hK _ X rfl (br _ _)
   refine Zi rfl rfl ?_
   clear hK hg
   go_simp
   simpa [updT,e8,e9] using h
  ·have e10:t 10=.pointer (some ⟨g,off+iq,none⟩):=hg 10 (Wt rfl)
   have f1:=(hb.cell (p:=⟨g,off+iq,none⟩) hgl).trans cg
   have h:=hK _ X rfl (br _ _)
   refine Zi rfl rfl ?_
   clear hK hg
   go_simp
   simpa [updT,e10] using h
  ·have e6:t 6=.slice p.A.da kn p.A.dc:=hg 6 (Wt rfl)
   have e11:t 11=.string tx:=hg 11 (Wt rfl)
   have e6:t 6=.slice p.A.da kn p.A.dc:=hg 6 (Wt rfl)
   have e11:t 11=.string tx:=hg 11 (Wt rfl)
   refine Zi rfl rfl ?_
   have HK:=hid hK
   have HC:=hid (hC X hb)
   clear hK hg hC hQ
   simp only [e6,e11]
   go_simp
   go_at_call 33
   refine HC.out.mono ?_
   rintro e Y ⟨rfl,hbY⟩
   have h:=HK.out (.bool hs) Y rfl hbY
   simpa [updT,e6,e11] using h
 ·intro t X K hb hg hK
  have e12:t 12=.bool hs:=hg 12 (by omega)
  have h:=hK _ X ⟨t,.bool (!hs),rfl,rfl,hb⟩
  refine Zi rfl rfl ?_
  clear hK hg hC
  simp only [e12]
  go_simp
  simpa [e12] using h
 ·rintro a X ⟨t,v3,rfl,hp⟩
  exact hQ t v3 X hp
def Em (_S g iq n cap:Nat) (m:Ms) (am:Option Addr) (cm:Nat) (r:Rc) (p:RcP) (_r1:Rc) (_W:World) (i:Nat) (v:Value) (_X:World):Prop:=
 match i with
 | 0=>v=.agg (rcC r p.A)
 | 1=>v=.slice (some ⟨g,0,none⟩) n cap
 | 2=>v=.int .i64 (iq:Int)
 | 3=>v=.pointer (some ⟨g,iq*8,none⟩)
 | 4=>v=.agg #[.int .i64 m.kind,.int .i64 m.from_,.int .i64 m.to,.int .i64 m.bal,.int .i64 m.ix,.int .i64 m.kn,.string m.text,.slice am m.n cm]
 | _=>True
set_option maxRecDepth 100000 in
theorem E8 (p0 p1 p2 p3 p4 p6 p7 p8 zc za zd zi zj zg zh zn zm zo zp zq yb yf ye z9 yd z8 z0 zu zy zt yg yi yj yh yk ym yo yr yt xo jo jm jp j7 kj ko j8 j5 j9 kg kd jw ju yp yq yv yw xx xy xc yu yx xb xd xg xk xe xh js x9 jk jj ji jl xw yz xi xm xa xf xj xl yy xn xp xq xr xu xt jt jr jq kf ke kk kq kh j0 j2 j6 jz jx jy jv x8 xz kt kr kv qu kz ql qn qg qi qx qy qv qw vk vi qd qm vf qj vj qs qp kx qo vg qr qe qq vh ky vm qt ve qz qk:Value) (w0 w1 w2 w3 w4:Value) (S g iq n cap:Nat) (m:Ms) (am:Option Addr) (cm:Nat) (r:Rc) (p:RcP) (r1:Rc) (W:World) (R:RcP→World→Prop) (hS:Bx W S (rcC r p.A)) (hgl:g<W.1.size) (hi:iq<n) (_hn:n≤1000) (c0:W.cell? ⟨g,iq*8,none⟩=some (.int .i64 m.kind)) (c1:W.cell? ⟨g,iq*8+1,none⟩=some (.int .i64 m.from_)) (c2:W.cell? ⟨g,iq*8+2,none⟩=some (.int .i64 m.to)) (c3:W.cell? ⟨g,iq*8+3,none⟩=some (.int .i64 m.bal)) (c4:W.cell? ⟨g,iq*8+4,none⟩=some (.int .i64 m.ix)) (c5:W.cell? ⟨g,iq*8+5,none⟩=some (.int .i64 m.kn)) (c6:W.cell? ⟨g,iq*8+6,none⟩=some (.string m.text)) (c7:W.cell? ⟨g,iq*8+7,none⟩=some (.slice am m.n cm)) (hQc:∀ X,Below W.1.size W X→Calls Tryz.prog 40 #[rcV r p.A,.agg #[.int .i64 m.kind,.int .i64 m.from_,.int .i64 m.to,.int .i64 m.bal,.int .i64 m.ix,.int .i64 m.kn,.string m.text,.slice am m.n cm]] X fun e w'=>∃ p',e=.returned (rcV r1 p'.A)∧R p' w') (hT:∀ p' Y,R p' Y→∃ c:Array Value,Bx Y S c∧c.size=18) (Q:Exit→Act→World→Prop) (hQ:∀ (t:Nat→Value) (v3:Value) X,(∃ p' Y,R p' Y∧Bx X S (rcC r1 p'.A)∧Fr S (S+1) Y X∧X.1.size=Y.1.size)→Q .normal ⟨#[p0,p1,p2,p3,p4,.pointer (some ⟨S,0,none⟩),p6,p7,p8,.slice (some ⟨g,0,none⟩) n cap,.int .i64 (iq:Int),zc,za,zd,zi,zj,zg,zh,zn,zm,zo,zp,zq,yb,yf,ye,z9,yd,z8,z0,zu,zy,zt,yg,yi,yj,yh,yk,ym,yo,yr,yt,xo,jo,jm,jp,j7,kj,ko,j8,j5,j9,kg,kd,jw,ju,yp,yq,yv,yw,xx,xy,xc,yu,yx,xb,xd,xg,xk,xe,xh,js,x9,jk,jj,ji,jl,xw,yz,xi,xm,xa,xf,xj,xl,yy,xn,xp,xq,xr,xu,xt,jt,jr,jq,kf,ke,kk,kq,kh,j0,j2,j6,jz,jx,jy,jv,x8,xz,kt,kr,kv,qu,kz,ql,qn,qg,qi,qx,qy,qv,qw,vk,vi,qd,qm,vf,qj,vj,qs,qp,kx,qo,vg,qr,qe,qq,vh,ky,t 0,t 1,t 2,t 3,t 4,v3,qt,ve,qz,qk],[]⟩ X) :
  Code.wp Tryz.prog (Code.region 36 #[⟨some 139,.load 38 (.tmp 5),38,GK,#[],none⟩,⟨some 140,.move (.tmp 9),35,GK,#[],none⟩,⟨some 141,.move (.tmp 10),3,GK,#[],none⟩,⟨some 142,.indexAddr 35 (.tmp 140) (.tmp 141),0,GK,#[⟨1,.data⟩,⟨2,.data⟩],none⟩,⟨some 143,.load 52 (.tmp 142),52,GK,#[⟨3,.data⟩],none⟩,⟨some 144,.call ⟨.value (.func 40),#[.tmp 139,.tmp 143],#[38,52]⟩,38,GK,#[⟨0,.data⟩,⟨4,.data⟩],none⟩,⟨none,.store 38 (.tmp 5) (.tmp 144),0,GK,#[⟨5,.data⟩,⟨5,.chain⟩,⟨0,.phase⟩,⟨1,.phase⟩,⟨2,.phase⟩,⟨3,.phase⟩,⟨4,.phase⟩,⟨5,.phase⟩],none⟩] true) Q ⟨#[p0,p1,p2,p3,p4,.pointer (some ⟨S,0,none⟩),p6,p7,p8,.slice (some ⟨g,0,none⟩) n cap,.int .i64 (iq:Int),zc,za,zd,zi,zj,zg,zh,zn,zm,zo,zp,zq,yb,yf,ye,z9,yd,z8,z0,zu,zy,zt,yg,yi,yj,yh,yk,ym,yo,yr,yt,xo,jo,jm,jp,j7,kj,ko,j8,j5,j9,kg,kd,jw,ju,yp,yq,yv,yw,xx,xy,xc,yu,yx,xb,xd,xg,xk,xe,xh,js,x9,jk,jj,ji,jl,xw,yz,xi,xm,xa,xf,xj,xl,yy,xn,xp,xq,xr,xu,xt,jt,jr,jq,kf,ke,kk,kq,kh,j0,j2,j6,jz,jx,jy,jv,x8,xz,kt,kr,kv,qu,kz,ql,qn,qg,qi,qx,qy,qv,qw,vk,vi,qd,qm,vf,qj,vj,qs,qp,kx,qo,vg,qr,qe,qq,vh,ky,w0,w1,w2,w3,w4,vm,qt,ve,qz,qk],[]⟩ W:=by
 refine JY (by kernel_rfl) 5 (fun t:Nat→Value=>#[p0,p1,p2,p3,p4,.pointer (some ⟨S,0,none⟩),p6,p7,p8,.slice (some ⟨g,0,none⟩) n cap,.int .i64 (iq:Int),zc,za,zd,zi,zj,zg,zh,zn,zm,zo,zp,zq,yb,yf,ye,z9,yd,z8,z0,zu,zy,zt,yg,yi,yj,yh,yk,ym,yo,yr,yt,xo,jo,jm,jp,j7,kj,ko,j8,j5,j9,kg,kd,jw,ju,yp,yq,yv,yw,xx,xy,xc,yu,yx,xb,xd,xg,xk,xe,xh,js,x9,jk,jj,ji,jl,xw,yz,xi,xm,xa,xf,xj,xl,yy,xn,xp,xq,xr,xu,xt,jt,jr,jq,kf,ke,kk,kq,kh,j0,j2,j6,jz,jx,jy,jv,x8,xz,kt,kr,kv,qu,kz,ql,qn,qg,qi,qx,qy,qv,qw,vk,vi,qd,qm,vf,qj,vj,qs,qp,kx,qo,vg,qr,qe,qq,vh,ky,t 0,t 1,t 2,t 3,t 4,vm,qt,ve,qz,qk]) (fun i=>match i with|0=>w0|1=>w1|2=>w2|3=>w3|_=>w4) (Em S g iq n cap m am cm r p r1 W) (fun a X=>∃ (t:Nat→Value) (p':RcP),a=⟨#[p0,p1,p2,p3,p4,.pointer (some ⟨S,0,none⟩),p6,p7,p8,.slice (some ⟨g,0,none⟩) n cap,.int .i64 (iq:Int),zc,za,zd,zi,zj,zg,zh,zn,zm,zo,zp,zq,yb,yf,ye,z9,yd,z8,z0,zu,zy,zt,yg,yi,yj,yh,yk,ym,yo,yr,yt,xo,jo,jm,jp,j7,kj,ko,j8,j5,j9,kg,kd,jw,ju,yp,yq,yv,yw,xx,xy,xc,yu,yx,xb,xd,xg,xk,xe,xh,js,x9,jk,jj,ji,jl,xw,yz,xi,xm,xa,xf,xj,xl,yy,xn,xp,xq,xr,xu,xt,jt,jr,jq,kf,ke,kk,kq,kh,j0,j2,j6,jz,jx,jy,jv,x8,xz,kt,kr,kv,qu,kz,ql,qn,qg,qi,qx,qy,qv,qw,vk,vi,qd,qm,vf,qj,vj,qs,qp,kx,qo,vg,qr,qe,qq,vh,ky,t 0,t 1,t 2,t 3,t 4,rcV r1 p'.A,qt,ve,qz,qk],[]⟩∧R p' X) (fun a X=>∃ (t:Nat→Value) (v3:Value),a=⟨#[p0,p1,p2,p3,p4,.pointer (some ⟨S,0,none⟩),p6,p7,p8,.slice (some ⟨g,0,none⟩) n cap,.int .i64 (iq:Int),zc,za,zd,zi,zj,zg,zh,zn,zm,zo,zp,zq,yb,yf,ye,z9,yd,z8,z0,zu,zy,zt,yg,yi,yj,yh,yk,ym,yo,yr,yt,xo,jo,jm,jp,j7,kj,ko,j8,j5,j9,kg,kd,jw,ju,yp,yq,yv,yw,xx,xy,xc,yu,yx,xb,xd,xg,xk,xe,xh,js,x9,jk,jj,ji,jl,xw,yz,xi,xm,xa,xf,xj,xl,yy,xn,xp,xq,xr,xu,xt,jt,jr,jq,kf,ke,kk,kq,kh,j0,j2,j6,jz,jx,jy,jv,x8,xz,kt,kr,kv,qu,kz,ql,qn,qg,qi,qx,qy,qv,qw,vk,vi,qd,qm,vf,qj,vj,qs,qp,kx,qo,vg,qr,qe,qq,vh,ky,t 0,t 1,t 2,t 3,t 4,v3,qt,ve,qz,qk],[]⟩∧(∃ p' Y,R p' Y∧Bx X S (rcC r1 p'.A)∧Fr S (S+1) Y X∧X.1.size=Y.1.size)) (by kernel_rfl) (by kernel_rfl) (by kernel_rfl) (by kernel_rfl) ?_ rfl ?_ ?_ ?_ ?_
 ·exact fun _ _ _ _ _ h _=>h
 ·intro i hi t X K hb hg hK
  rcases (show i=0∨i=1∨i=2∨i=3∨i=4 by omega) with rfl|rfl|rfl|rfl|rfl
  ·exact Gd
  ·exact Jv
  ·exact Jv
  ·have e1:t 1=.slice (some ⟨g,0,none⟩) n cap:=hg 1 (Wt rfl)
   have e2:t 2=.int .i64 (iq:Int):=hg 2 (Wt rfl)
   have hi2:=hi
   have h:=hK _ X rfl (br _ _)
   refine Zi rfl rfl ?_
   clear hK hg
   go_simp
   simpa [updT,e1,e2] using h
  ·have e3:t 3=.pointer (some ⟨g,iq*8,none⟩):=hg 3 (Wt rfl)
   have f0:=(hb.cell (p:=⟨g,iq*8,none⟩) hgl).trans c0
   have f1:=(hb.cell (p:=⟨g,iq*8+1,none⟩) hgl).trans c1
   have f2:=(hb.cell (p:=⟨g,iq*8+2,none⟩) hgl).trans c2
   have f3:=(hb.cell (p:=⟨g,iq*8+3,none⟩) hgl).trans c3
   have f4:=(hb.cell (p:=⟨g,iq*8+4,none⟩) hgl).trans c4
   have f5:=(hb.cell (p:=⟨g,iq*8+5,none⟩) hgl).trans c5
   have f6:=(hb.cell (p:=⟨g,iq*8+6,none⟩) hgl).trans c6
   have f7:=(hb.cell (p:=⟨g,iq*8+7,none⟩) hgl).trans c7
   exact OZ
 ·intro t X K hb hg hK
  have e0:t 0=.agg (rcC r p.A):=hg 0 (by omega)
  have e4:t 4=.agg #[.int .i64 m.kind,.int .i64 m.from_,.int .i64 m.to,.int .i64 m.bal,.int .i64 m.ix,.int .i64 m.kn,.string m.text,.slice am m.n cm]:=hg 4 (by omega)
  refine Zi rfl rfl ?_
  have HK:=hid hK
  have HC:=hid (hQc X hb)
  clear hK hg hQc hQ hT
  simp only [e0,e4]
  go_simp
  go_at_call 40
  refine HC.out.mono ?_
  rintro e Y ⟨p',rfl,hr⟩
  have h:=HK.out _ Y ⟨t,p',rfl,hr⟩
  simpa [e0,e4] using h
 ·exact apVl7
 ·rintro a X ⟨t,v3,rfl,hp⟩
  exact hQ t v3 X hp
end Go.Proofs.YtokkbdlofbdljaaGreat
