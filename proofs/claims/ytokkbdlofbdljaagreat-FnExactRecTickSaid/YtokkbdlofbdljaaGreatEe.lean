import Derived.Test.YtokkbdlofbdljaaGreatSb
namespace Go.Proofs.YtokkbdlofbdljaaGreat
open Go.RowKit
set_option maxHeartbeats 8000000
theorem YG {P:Program} {ops:Array Oper} {Q:Exit→Act→World→Prop} {i:Nat} {K:Act→World→Prop} {a:Act} {w:World} {o:Oper} (ho:ops[i]? = some o) (hg:o.guard=none) (s x:Operand) (t tx:TypeId)
  (hop:o.op=.call { callee:=.builtin .append,args:=#[s,x],argTypes:=#[t,tx] }) (v xv v2:Value) (w2:World) (hs:a.eval s=v) (hx:a.eval x=xv) (hr:(Builtin.append_ #[t,tx] o.type #[v,xv]).run P w=.ok v2 w2)
  (h:K (a.put o.dst v2) w2):wpOp P ops Q i K a w:=by
 refine Zi ho hg ?_
 unfold Oper.wp execOp
 simp only [hop,resolve,invoke,builtin,Sem.run_bind,Sem.run_pure,Result.andThen_ok,List.map_toArray,List.map_cons,List.map_nil,hs,hx,hr]
 exact h
def AkOk (W X:World) (y:Ak) (ad':Option Addr) (cap' b':Nat):Prop:=W.1.size≤b'∧(y.n≠0→b'<X.1.size)∧IntsOwn X b' (b'+1) ad' y.n y.s∧y.n≤cap'
theorem AkOk.grow {W X Y:World} {y:Ak} {ad':Option Addr} {cap' b':Nat} (h:AkOk W X y ad' cap' b') (hb:Below X.1.size X Y):AkOk W Y y ad' cap' b':=
 ⟨h.1,fun h0=>ltl (h.2.1 h0) hb.size,h.2.2.1.frP (FrP.of_below (P:=fun _=>False) hb) (fun h0=>⟨fun h=>h,h.2.1 h0⟩),h.2.2.2⟩
def ackRegG (s b off n cap k:Nat) (o:Value) (a:Option Addr) (c:Nat) (y:Ak) (W:World) (i:Nat) (v:Value) (X:World):Prop:=
 match i with
 | 0=>v=o
 | 1=>v=.pointer (some ⟨s,16,none⟩)
 | 2=>v=.slice (some ⟨b,off,none⟩) n cap
 | 3=>v=.int .i64 k
 | 4=>v=.pointer (some ⟨b,off+k*2,none⟩)
 | 5=>v=.pointer (some ⟨b,off+k*2,none⟩)
 | 6=>v=.int .i64 y.ix
 | 7=>∃ q,v=.slice (some ⟨q,0,none⟩) 0 0
 | 8=>v=.pointer (some ⟨s,16,none⟩)
 | 9=>v=.slice (some ⟨b,off,none⟩) n cap
 | 10=>v=.int .i64 k
 | 11=>v=.pointer (some ⟨b,off+k*2,none⟩)
 | 12=>v=.pointer (some ⟨b,off+k*2+1,none⟩)
 | 13=>v=.slice a y.n c
 | 14=>∃ ad' cap' b',v=.slice ad' y.n cap'∧AkOk W X y ad' cap' b'
 | 15=>∃ ad' cap' b',v=.agg #[.int .i64 y.ix,.slice ad' y.n cap']∧AkOk W X y ad' cap' b'
 | 16=>∃ ad' cap' b' q,v=.slice (some ⟨q,0,none⟩) 1 1∧X.cell? ⟨q,0,none⟩=some (.int .i64 y.ix)∧X.cell? ⟨q,1,none⟩=some (.slice ad' y.n cap')∧q<X.1.size∧AkOk W X y ad' cap' b'
 | _=>True
theorem Pb {P:Prop} (h:P:=by
  have h:=hK _ X rfl (br _ _)
  refine Zi rfl rfl ?_
  clear hK hg1
  go_simp
  simpa [updT] using h):P:=h
set_option maxRecDepth 100000 in
theorem ackReg (p0 p2 p5 p6 p7 p8 p9 ze zc za zd zi zj zg zh zn zm zo zp zq yb yf ye z9 yd z8 z0 zu zy zt yg yi yj yh yk ym yp yq yv yw v0 v1 v2 v3 v4 v5 v6 v7 v8 v9 v10 v11 v12 v13 v14 v15 v16:Value) (s b off n cap k:Nat) (o:Value) (a:Option Addr) (c:Nat) (y:Ak) (W:World) (lo hi base:Nat) (x:Nat→Ak) (A:Nat→Option Addr) (C hb:Nat→Nat) (hy:x k=y) (h1:W.cell? ⟨s,16,none⟩=some (.slice (some ⟨b,off,none⟩) n cap)) (h2:W.cell? ⟨b,off+k*2,none⟩=some (.int .i64 y.ix)) (h3:W.cell? ⟨b,off+k*2+1,none⟩=some (.slice a y.n c)) (hs:s<W.1.size) (hbw:b<W.1.size) (hhi:hi≤W.1.size) (hl:(y.n:Int)≤1048576) (hl2:(n:Int)≤1048576) (hin:IntsIn W lo hi a y.n y.s) (hk:k<n) (hbase:base≤W.1.size) (hbd:BdAk W base o k x A C hb) (Q:Exit→Act→World→Prop)
  (hQ:∀ (t:Nat→Value) (u9:Value) (ad':Option Addr) (cap' b':Nat) (X:World),BdAk X base u9 (k+1) x (updF A k ad') (updF C k cap') (updF hb k b')→FrP (fun q=>o.ownBlock=some q) W X→y.n≤cap'→Q .normal ⟨#[p0,.pointer (some ⟨s,0,none⟩),p2,u9,.int .i64 k,p5,p6,p7,p8,p9,ze,zc,za,zd,zi,zj,zg,zh,zn,zm,zo,zp,zq,yb,yf,ye,z9,yd,z8,z0,zu,zy,zt,yg,yi,yj,yh,yk,ym,t 0,t 1,t 2,t 3,t 4,t 5,t 6,t 7,t 8,t 9,t 10,t 11,t 12,t 13,t 14,t 15,t 16,u9,yq,yv,yw],[]⟩ X) :
  Code.wp Tryz.prog (Code.region 11 #[⟨some 39,.move (.tmp 3),36,Gv,#[],none⟩,⟨some 40,.fieldAddr 38 (.tmp 1) 12,0,Gv,#[],none⟩,⟨some 41,.load 36 (.tmp 40),36,Gv,#[⟨1,.data⟩],none⟩,⟨some 42,.move (.tmp 4),3,Gv,#[],none⟩,⟨some 43,.indexAddr 36 (.tmp 41) (.tmp 42),0,Gv,#[⟨2,.data⟩,⟨3,.data⟩],none⟩,⟨some 44,.fieldAddr 108 (.tmp 43) 0,0,Gv,#[⟨4,.data⟩],none⟩,⟨some 45,.load 3 (.tmp 44),3,Gv,#[⟨5,.data⟩],none⟩,⟨some 46,.buildSlice 27 0 #[],27,Gv,#[],none⟩,⟨some 47,.fieldAddr 38 (.tmp 1) 12,0,Gv,#[],none⟩,⟨some 48,.load 36 (.tmp 47),36,Gv,#[⟨8,.data⟩],none⟩,⟨some 49,.move (.tmp 4),3,Gv,#[],none⟩,⟨some 50,.indexAddr 36 (.tmp 48) (.tmp 49),0,Gv,#[⟨9,.data⟩,⟨10,.data⟩],none⟩,⟨some 51,.fieldAddr 108 (.tmp 50) 1,0,Gv,#[⟨11,.data⟩],none⟩,⟨some 52,.load 27 (.tmp 51),27,Gv,#[⟨12,.data⟩],none⟩,⟨some 53,.call ⟨.builtin .append,#[.tmp 46,.tmp 52],#[27,27]⟩,27,Gv,#[⟨7,.data⟩,⟨13,.data⟩],none⟩,⟨some 54,.build 108 #[(0,.tmp 45),(1,.tmp 53)],108,Gv,#[⟨6,.data⟩,⟨14,.data⟩],none⟩,⟨some 55,.buildSlice 36 1 #[(0,.tmp 54)],36,Gv,#[⟨15,.data⟩],none⟩,⟨some 56,.call ⟨.builtin .append,#[.tmp 39,.tmp 55],#[36,36]⟩,36,Gv,#[⟨0,.data⟩,⟨16,.data⟩,⟨14,.chain⟩],none⟩,⟨some 3,.assign (.tmp 56),36,Gv,#[⟨17,.data⟩,⟨17,.chain⟩,⟨0,.phase⟩,⟨1,.phase⟩,⟨2,.phase⟩,⟨3,.phase⟩,⟨4,.phase⟩,⟨5,.phase⟩,⟨6,.phase⟩,⟨7,.phase⟩,⟨8,.phase⟩,⟨9,.phase⟩,⟨10,.phase⟩,⟨11,.phase⟩,⟨12,.phase⟩,⟨13,.phase⟩,⟨14,.phase⟩,⟨15,.phase⟩,⟨16,.phase⟩,⟨17,.phase⟩],none⟩] true) Q ⟨#[p0,.pointer (some ⟨s,0,none⟩),p2,o,.int .i64 k,p5,p6,p7,p8,p9,ze,zc,za,zd,zi,zj,zg,zh,zn,zm,zo,zp,zq,yb,yf,ye,z9,yd,z8,z0,zu,zy,zt,yg,yi,yj,yh,yk,ym,v0,v1,v2,v3,v4,v5,v6,v7,v8,v9,v10,v11,v12,v13,v14,v15,v16,yp,yq,yv,yw],[]⟩ W:=by
 obtain ⟨i0,hi0,hz0,hz1,hz2⟩:=info_parts Tryz.info108
 have HIN:=hid hin
 have HBD:=hid hbd
 clear hin hbd
 refine JY (by kernel_rfl) 17 (fun t:Nat→Value=>#[p0,.pointer (some ⟨s,0,none⟩),p2,o,.int .i64 k,p5,p6,p7,p8,p9,ze,zc,za,zd,zi,zj,zg,zh,zn,zm,zo,zp,zq,yb,yf,ye,z9,yd,z8,z0,zu,zy,zt,yg,yi,yj,yh,yk,ym,t 0,t 1,t 2,t 3,t 4,t 5,t 6,t 7,t 8,t 9,t 10,t 11,t 12,t 13,t 14,t 15,t 16,yp,yq,yv,yw]) (fun j=>match j with|0=>v0|1=>v1|2=>v2|3=>v3|4=>v4|5=>v5|6=>v6|7=>v7|8=>v8|9=>v9|10=>v10|11=>v11|12=>v12|13=>v13|14=>v14|15=>v15|_=>v16) (ackRegG s b off n cap k o a c y W) (fun a1 X=>∃ (t:Nat→Value) (u9:Value) (ad':Option Addr) (cap' b':Nat),a1=⟨#[p0,.pointer (some ⟨s,0,none⟩),p2,o,.int .i64 k,p5,p6,p7,p8,p9,ze,zc,za,zd,zi,zj,zg,zh,zn,zm,zo,zp,zq,yb,yf,ye,z9,yd,z8,z0,zu,zy,zt,yg,yi,yj,yh,yk,ym,t 0,t 1,t 2,t 3,t 4,t 5,t 6,t 7,t 8,t 9,t 10,t 11,t 12,t 13,t 14,t 15,t 16,u9,yq,yv,yw],[]⟩∧BdAk X base u9 (k+1) x (updF A k ad') (updF C k cap') (updF hb k b')∧FrP (fun q=>o.ownBlock=some q) W X∧y.n≤cap') (fun a1 X=>∃ (t:Nat→Value) (u9:Value) (ad':Option Addr) (cap' b':Nat),a1=⟨#[p0,.pointer (some ⟨s,0,none⟩),p2,u9,.int .i64 k,p5,p6,p7,p8,p9,ze,zc,za,zd,zi,zj,zg,zh,zn,zm,zo,zp,zq,yb,yf,ye,z9,yd,z8,z0,zu,zy,zt,yg,yi,yj,yh,yk,ym,t 0,t 1,t 2,t 3,t 4,t 5,t 6,t 7,t 8,t 9,t 10,t 11,t 12,t 13,t 14,t 15,t 16,u9,yq,yv,yw],[]⟩∧BdAk X base u9 (k+1) x (updF A k ad') (updF C k cap') (updF hb k b')∧FrP (fun q=>o.ownBlock=some q) W X∧y.n≤cap') (by kernel_rfl) (by kernel_rfl) (by kernel_rfl) (by kernel_rfl) ?_ rfl ?_ ?_ ?_ ?_
 ·intro i v X Y hi1 h hb1
  rcases (show i=0∨i=1∨i=2∨i=3∨i=4∨i=5∨i=6∨i=7∨i=8∨i=9∨i=10∨i=11∨i=12∨i=13∨i=14∨i=15∨i=16 by omega) with rfl|rfl|rfl|rfl|rfl|rfl|rfl|rfl|rfl|rfl|rfl|rfl|rfl|rfl|rfl|rfl|rfl
  ·exact h
  ·exact h
  ·exact h
  ·exact h
  ·exact h
  ·exact h
  ·exact h
  ·exact h
  ·exact h
  ·exact h
  ·exact h
  ·exact h
  ·exact h
  ·exact h
  ·obtain ⟨ad',cap',b',e1,e2⟩:=h
   exact ⟨ad',cap',b',e1,e2.grow hb1⟩
  ·obtain ⟨ad',cap',b',e1,e2⟩:=h
   exact ⟨ad',cap',b',e1,e2.grow hb1⟩
  ·obtain ⟨ad',cap',b',q,e1,e2,e3,e4,e5⟩:=h
   exact ⟨ad',cap',b',q,e1,(hb1.cell (p:=⟨q,0,none⟩) e4).trans e2,(hb1.cell (p:=⟨q,1,none⟩) e4).trans e3,ltl e4 hb1.size,e5.grow hb1⟩
 ·intro i hi1 t X K hb1 hg1 hK
  rcases (show i=0∨i=1∨i=2∨i=3∨i=4∨i=5∨i=6∨i=7∨i=8∨i=9∨i=10∨i=11∨i=12∨i=13∨i=14∨i=15∨i=16 by omega) with rfl|rfl|rfl|rfl|rfl|rfl|rfl|rfl|rfl|rfl|rfl|rfl|rfl|rfl|rfl|rfl|rfl
  ·exact Pb
  ·exact Pb
  ·have e1:t 1=.pointer (some ⟨s,16,none⟩):=hg1 1 (Wt rfl)
   have f1:=(hb1.cell (p:=⟨s,16,none⟩) hs).trans h1
   have h:=hK _ X rfl (br _ _)
   refine Zi rfl rfl ?_
   clear hK hg1
   go_simp
   simpa [updT,e1] using h
  ·exact Pb
  ·have e2:t 2=.slice (some ⟨b,off,none⟩) n cap:=hg1 2 (Wt rfl)
   have e3:t 3=.int .i64 k:=hg1 3 (Wt rfl)
   have h:=hK _ X rfl (br _ _)
   refine Zi rfl rfl ?_
   clear hK hg1
   go_simp
   simpa [updT,e2,e3] using h
  ·have e4:t 4=.pointer (some ⟨b,off+k*2,none⟩):=hg1 4 (Wt rfl)
   have h:=hK _ X rfl (br _ _)
   refine Zi rfl rfl ?_
   clear hK hg1
   go_simp
   simpa [updT,e4] using h
  ·have e5:t 5=.pointer (some ⟨b,off+k*2,none⟩):=hg1 5 (Wt rfl)
   have f1:=(hb1.cell (p:=⟨b,off+k*2,none⟩) hbw).trans h2
   have h:=hK _ X rfl (br _ _)
   refine Zi rfl rfl ?_
   clear hK hg1
   go_simp
   simpa [updT,e5] using h
  ·have h:=hK (.slice (some ⟨X.1.size,0,none⟩) 0 0) (X.alloc (.cells #[] 3)) ⟨_,rfl⟩ (Zb _ _)
   refine Zi rfl rfl ?_
   clear hK hg1
   go_simp
   simpa [updT] using h
  ·exact Pb
  ·have e8:t 8=.pointer (some ⟨s,16,none⟩):=hg1 8 (Wt rfl)
   have f1:=(hb1.cell (p:=⟨s,16,none⟩) hs).trans h1
   have h:=hK _ X rfl (br _ _)
   refine Zi rfl rfl ?_
   clear hK hg1
   go_simp
   simpa [updT,e8] using h
  ·exact Pb
  ·have e9:t 9=.slice (some ⟨b,off,none⟩) n cap:=hg1 9 (Wt rfl)
   have e10:t 10=.int .i64 k:=hg1 10 (Wt rfl)
   have h:=hK _ X rfl (br _ _)
   refine Zi rfl rfl ?_
   clear hK hg1
   go_simp
   simpa [updT,e9,e10] using h
  ·have e11:t 11=.pointer (some ⟨b,off+k*2,none⟩):=hg1 11 (Wt rfl)
   have h:=hK _ X rfl (br _ _)
   refine Zi rfl rfl ?_
   clear hK hg1
   go_simp
   simpa [updT,e11] using h
  ·have e12:t 12=.pointer (some ⟨b,off+k*2+1,none⟩):=hg1 12 (Wt rfl)
   have f1:=(hb1.cell (p:=⟨b,off+k*2+1,none⟩) hbw).trans h3
   have h:=hK _ X rfl (br _ _)
   refine Zi rfl rfl ?_
   clear hK hg1
   go_simp
   simpa [updT,e12] using h
  ·obtain ⟨q7,e7⟩:∃ q,t 7=.slice (some ⟨q,0,none⟩) 0 0:=hg1 7 (Wt rfl)
   have e13:t 13=.slice a y.n c:=hg1 13 (Wt rfl)
   obtain ⟨ad',cap',w',hrun,hrow,hb',hcl,_⟩:=YB (P:=Tryz.prog) X 27 27 3 1 8 (.int .i64 0) Tryz.underlying27 Tryz.info3 (by omega) lo hi q7 a y.n c _ ((HIN.out.below hb1 hhi).src) (by omega) (by omega)
   have h:=hK (.slice ad' y.n cap') w' ⟨ad',cap',X.1.size,rfl,hb1.size,fun h0=>(hrow (by omega)).2.lt,fun i hi=>by obtain ⟨r1,r2⟩:=hrow (by omega);subst r1;exact r2.ints i hi,hcl⟩ hb'
   exact YG rfl rfl _ _ 27 27 rfl _ _ _ _ e7 e13 hrun h
  ·have e6:t 6=.int .i64 y.ix:=hg1 6 (Wt rfl)
   obtain ⟨ad',cap',b',e14,k14⟩:∃ ad' cap' b',t 14=.slice ad' y.n cap'∧AkOk W X y ad' cap' b':=hg1 14 (Wt rfl)
   have h:=hK (.agg #[.int .i64 y.ix,.slice ad' y.n cap']) X ⟨ad',cap',b',rfl,k14⟩ (br _ _)
   refine Zi rfl rfl ?_
   clear hK hg1
   go_simp
   simpa [updT,e6,e14] using h
  ·obtain ⟨ad',cap',b',e15,k15⟩:∃ ad' cap' b',t 15=.agg #[.int .i64 y.ix,.slice ad' y.n cap']∧AkOk W X y ad' cap' b':=hg1 15 (Wt rfl)
   have h:=hK (.slice (some ⟨X.1.size,0,none⟩) 1 1) (X.alloc (.cells #[.int .i64 y.ix,.slice ad' y.n cap'] 108)) ⟨ad',cap',b',X.1.size,rfl,Zt X _ 108 0,Zt X _ 108 1,by simp,k15.grow (Zb _ _)⟩ (Zb _ _)
   refine Zi rfl rfl ?_
   clear hK hg1
   go_simp
   simpa [updT,e15] using h
 ·intro t X K hb1 hg1 hK
  have e0:t 0=o:=hg1 0 (by omega)
  obtain ⟨ad',cap',b',q,e16,c0,c1,hq,k16⟩:∃ ad' cap' b' q,t 16=.slice (some ⟨q,0,none⟩) 1 1∧X.cell? ⟨q,0,none⟩=some (.int .i64 y.ix)∧X.cell? ⟨q,1,none⟩=some (.slice ad' y.n cap')∧q<X.1.size∧AkOk W X y ad' cap' b':=hg1 16 (by omega)
  have BD1:=HBD.out.grow (hb1.mono (lrf _))
  obtain ⟨c9,hown,hat⟩:=BD1.row
  have hzX:=hb1.size
  obtain ⟨v',w',hr,hown2,hgrow2,hnil2,hat2⟩:=run_append_own_at (P:=Tryz.prog) X base 36 36 108 i0 _ 2 32 Tryz.underlying36 hi0 hz0 hz1 hz2 rfl (by decide) o k (Zg (k*2) c9) hown ⟨q,0,none⟩ 1 1 [.int .i64 y.ix,.slice ad' y.n cap'] rfl (fun j u hu=>by
   rw [show ((⟨q,0,none⟩:Addr).add j)=⟨q,j,none⟩ by unfold Addr.add;split<;>simp_all]
   match j,hu with
   | 0,hu=>cases hu;exact c0
   | 1,hu=>cases hu;exact c1
   | j+2,hu=>simp at hu) (by simp [Value.oneCell']) (by unfold maxLen;omega) (by omega) (by omega)
  subst hy
  have BD2:=BD1.app (cap':=cap') (b':=b') hat hown2 hgrow2 hat2 k16.2.2.1 (fun h0=>⟨by have:=k16.1;omega,k16.2.1 h0⟩)
   (fun h0 e=>by
    obtain ⟨c0',r0,_⟩:=HBD.out.row
    have h1:=(r0.lt _ e).2
    have h2:=k16.1
    omega)
   (fun i hi h0 h1 e=>by
    have h2:=(HBD.out.hlt i hi h0).2
    have h3:=k16.1
    omega)
  have h:=hK _ w' ⟨t,v',ad',cap',b',rfl,BD2,(FrP.of_below (hb1.mono (lrf _))).trans (FrP.of_grown hgrow2),k16.2.2.2⟩
  exact YG rfl rfl _ _ 36 36 rfl _ _ _ _ e0 e16 hr h
 ·rintro a1 X K ⟨t,u9,ad',cap',b',rfl,hp⟩ hK
  have h:=hK ⟨#[p0,.pointer (some ⟨s,0,none⟩),p2,u9,.int .i64 k,p5,p6,p7,p8,p9,ze,zc,za,zd,zi,zj,zg,zh,zn,zm,zo,zp,zq,yb,yf,ye,z9,yd,z8,z0,zu,zy,zt,yg,yi,yj,yh,yk,ym,t 0,t 1,t 2,t 3,t 4,t 5,t 6,t 7,t 8,t 9,t 10,t 11,t 12,t 13,t 14,t 15,t 16,u9,yq,yv,yw],[]⟩ X ⟨t,u9,ad',cap',b',rfl,hp⟩
  refine Zi rfl rfl ?_
  clear hK
  go_simp
  exact h
 ·rintro a1 X ⟨t,u9,ad',cap',b',rfl,hp⟩
  exact hQ t u9 ad' cap' b' X hp.1 hp.2.1 hp.2.2
end Go.Proofs.YtokkbdlofbdljaaGreat
namespace Go.Proofs.YtokkbdlofbdljaaGreat
open Go.RowKit
theorem FrP.of_below2 {P:Nat→Prop} {w w':World} {n:Nat} (h:Below n w w') (hn:w.1.size≤n):FrP P w w':=FrP.of_below (h.mono hn)
structure WsOk (w:World) (r:Rc) (p:RcP):Prop where
 le:r.wn≤p.A.wc
 zero:r.wn=0→p.A.wc=0
 at_:r.wn≠0→p.A.wa=some ⟨p.g3,0,none⟩∧Room w p.g3 p.A.wc
 da:∃ g,p.A.da=some ⟨g,0,none⟩
 dc:r.dk.n≤p.A.dc
theorem Ye {w w':World} {g m:Nat} {P:Nat→Prop} (h:Room w g m) (hf:FrP P w w') (hg:¬P g):Room w' g m:=
 ⟨fun j hj=>by rw [hf.cell (p:=⟨g,j,none⟩) h.lt hg];exact h.has j hj,fun j=>by rw [hf.frozen (p:=⟨g,j,none⟩) h.lt hg];exact h.free j,ltl h.lt hf.size⟩
set_option maxRecDepth 100000 in
theorem has_any (n:Nat) (x:Nat→Sl) (ad:Option Addr) (cap:Nat) (a:ByteArray) (w:World) (lo hi:Nat) (hl:(n:Int)≤1048576) (hbal:∀ i,i<n→0<(x i).bal) (hc:SlsIn w lo hi ad n x) :
  Calls Tryz.prog 33 #[.slice ad n cap,.string a] w fun e w'=>e=.returned (.bool (hasB n (fun i=>(x i).text) a))∧w'=w:=by
 have HC:=hid hc
 have HBL:=hid hbal
 clear hc hbal
 go_enter Tryz.func33,Tryz.ntmps33
 go_wp2
 go_loopw [5] (fun i wr=>∃ k:Nat,k≤n∧i=.int .i64 k∧wr=w∧Hid (∀ j,j<k→¬(x j).text=a)) (fun i _=>n-(intOf i).toNat)
 case atStart=>exact ⟨0,zle _,rfl,rfl,fun j hj=>absurd hj (nlz _)⟩
 case round=>
  obtain ⟨k,hk,rfl,rfl,HN⟩:=hrel
  by_cases hkn:k<n
  ·obtain ⟨b,off,rfl,hlo,hbh,hcx⟩:=HC.out k hkn
   obtain ⟨c0,c1⟩:=hcx
   have hp:=HBL.out k hkn
   by_cases he:(x k).text=a
   ·have HE:=hid (Jq (s:=fun i=>(x i).text) hkn he)
    have hbq:((x k).text.toList==a.toList)=true:=by rw [Nr];simp [he]
    clear he
    go_wp2
    go_ret
    exact ⟨Zh HE.out.symm,rfl⟩
   ·have hbq:=Js he
    have hbq2:=Js (fun h=>he (Eq.symm h))
    have HP:=hid he
    clear he
    go_wp2
    go_roundw
    case rel=>exact ⟨k+1,by omega,by go_num,by first|trivial|rfl,(fun j hj=>by
     rcases Nat.lt_or_ge j k with h|h
     ·exact HN.out j h
     ·obtain rfl:j=k:=by omega
      exact HP.out:∀ j,j<k+1→¬(x j).text=a)⟩
    case measure=>simp [intOf];omega
  ·have HE:=hid (Kd (n:=n) (s:=fun i=>(x i).text) (a:=a) (fun i hi'=>HN.out i (by omega)))
   go_wp2
   go_ret
   exact ⟨Zh HE.out.symm,rfl⟩
theorem FrP.low {P:Nat→Prop} {w w':World} (h:FrP (fun q=>P q∨w.1.size≤q) w w'):FrP P w w':=by
 refine ⟨h.os,h.tape,h.output,h.size,fun k hk ho=>h.block k hk (fun e=>?_)⟩
 rcases e with e|e
 ·exact ho e
 ·omega
end Go.Proofs.YtokkbdlofbdljaaGreat
namespace Go.Proofs.YtokkbdlofbdljaaGreat
open Go.RowKit
structure Rw (w:World) (ad:Option Addr) (g n cap z:Nat) (c:Nat→Value):Prop where
 addr:0<cap→ad=some ⟨g,0,none⟩
 le:n≤cap
 room:0<cap→Room w g (cap*z)
 cell:∀ j,j<n*z→w.cell? ⟨g,j,none⟩=some (c j)
theorem Rw.fr {w w':World} {ad:Option Addr} {g n cap z:Nat} {c:Nat→Value} {P:Nat→Prop} (h:Rw w ad g n cap z c) (hf:FrP P w w') (hp:0<cap→¬P g):Rw w' ad g n cap z c:=
 ⟨h.addr,h.le,fun h0=>⟨fun j hj=>by
  obtain ⟨u,hu⟩:=(h.room h0).has j hj
  exact ⟨u,(hf.cell (p:=⟨g,j,none⟩) (h.room h0).lt (hp h0)).trans hu⟩,fun j=>(hf.frozen (p:=⟨g,j,none⟩) (h.room h0).lt (hp h0)).trans ((h.room h0).free j),ltl (h.room h0).lt hf.size⟩,fun j hj=>by
  have h0:0<cap:=by
   rcases Nat.eq_zero_or_pos n with e|e
   ·subst e;simp at hj
   ·exact ltl e h.le
  exact (hf.cell (p:=⟨g,j,none⟩) (h.room h0).lt (hp h0)).trans (h.cell j hj)⟩
theorem Rw.grow {w w':World} {ad:Option Addr} {g n cap z:Nat} {c:Nat→Value} (h:Rw w ad g n cap z c) (hf:Below w.1.size w w'):Rw w' ad g n cap z c:=h.fr (FrP.of_below (P:=fun _=>False) hf) (fun _ h=>h)
theorem Rw.rowF {w:World} {ad:Option Addr} {g n cap z:Nat} {c:Nat→Value} (h:Rw w ad g n cap z c) (hn:0<n):ad=some ⟨g,0,none⟩∧RowF w g (n*z) c:=
 have h0:0<cap:=ltl hn h.le
 ⟨h.addr h0,(h.room h0).lt,fun j=>(h.room h0).free j,h.cell⟩
theorem Rw.none (w:World) (ad:Option Addr) (g z:Nat) (c:Nat→Value):Rw w ad g 0 0 z c:=⟨fun h=>absurd h (Nat.lt_irrefl _),lrf _,fun h=>absurd h (Nat.lt_irrefl _),fun j hj=>by simp at hj⟩
theorem Rw.src {w:World} {ad:Option Addr} {g n cap z:Nat} {c:Nat→Value} (h:Rw w ad g n cap z c) (h1:∀ j,j<n*z→(c j).oneCell'=true):SrcRow w g (g+1) ad (n*z) c:=
 ⟨fun j hj=>by
  have hn:0<n:=Nat.pos_of_ne_zero (fun e=>by subst e;simp at hj)
  exact ⟨g,0,(h.rowF hn).1,lrf _,Nat.lt_succ_self _,by rw [Nat.zero_add];exact h.cell j hj⟩,h1⟩
theorem KA {P:Program} (w:World) (t ty e:TypeId) (z bytes:Nat) (zv:Value) (ht:P.underlying t=some (.slice e)) (hinf:(P.info? e).map (fun i=>(i.zero,i.size,i.bytes))=some (some zv,z,bytes)) (hz:0<z) (hzv:zv.cells.size=z)
  (ad:Option Addr) (g n cap:Nat) (c:Nat→Value) (h:Rw w ad g n cap z c) (h1:∀ j,j<n*z→(c j).oneCell'=true) (lo2 hi2:Nat) (ad2:Option Addr) (m cap2:Nat) (d:Nat→Value) (hd:SrcRow w lo2 hi2 ad2 (m*z) d) (hm:0<m)
  (h63:((n+m:Nat):Int)≤9223372036854775807) (hb:(n+m)*bytes≤140737488355328) :
  ∃ ad' cap' g' w',(Builtin.append_ #[t,t] ty #[.slice ad n cap,.slice ad2 m cap2]).run P w=.ok (.slice ad' (n+m) cap') w'∧Rw w' ad' g' (n+m) cap' z (XD c (n*z) d)∧FrP (fun q=>0<cap∧q=g) w w'∧((0<cap∧g'=g)∨w.1.size≤g'):=by
 by_cases hroom:n+m≤cap
 ·have hc0:0<cap:=by omega
  have rm:=h.room hc0
  have had:=h.addr hc0
  subst had
  obtain ⟨i0,hi0,hz0,hz1,hz2⟩:=info_parts hinf
  have hle:(n+m)*z≤cap*z:=Nat.mul_le_mul_right z hroom
  have hex:(n+m)*z=n*z+m*z:=Nat.add_mul n m z
  have hrun:=run_append_room_src (P:=P) w t t ty e i0 ht hi0 g 0 n cap (.slice ad2 m cap2) m (Zg (m*z) d) (by rw [hz1];exact hd.src hz ht) hroom (fun j hj=>by
   rw [Zj] at hj
   obtain ⟨u,hu⟩:=rm.has (n*z+j) (by omega)
   rw [hz1,show 0+n*z+j=n*z+j by omega,hu];rfl) (fun j hj=>rm.free _)
  rw [hz1,show 0+n*z=n*z by omega] at hrun
  have hin:∀ j,j<m*z→(w.setCells g (n*z) (Zg (m*z) d)).cell? ⟨g,n*z+j,none⟩=some (d j):=fun j hj=>by
   have:=World.cell?_setCells_in g (Zg (m*z) d) (n*z) w (fun j hj=>by
    rw [Zj] at hj
    obtain ⟨u,hu⟩:=rm.has (n*z+j) (by omega)
    rw [hu];rfl) j (by rw [Zj];exact hj)
   rw [ZG] at this
   exact this
  have hout:∀ j,(j<n*z∨n*z+m*z≤j)→(w.setCells g (n*z) (Zg (m*z) d)).cell? ⟨g,j,none⟩=w.cell? ⟨g,j,none⟩:=fun j hj=>World.cell?_setCells_out g _ (n*z) w ⟨g,j,none⟩ (fun _ _=>by rw [Zj];rcases hj with hj|hj;exact Or.inl hj;exact Or.inr hj)
  refine ⟨_,_,g,_,hrun,⟨fun _=>rfl,hroom,fun _=>⟨fun j hj=>?_,fun j=>by rw [World.frozen?_setCells];exact rm.free _,by rw [ZB];exact rm.lt⟩,fun j hj=>?_⟩,FrP.of_fr (Zx g _ (n*z) w) (fun k h1 h2=>⟨hc0,by omega⟩),Or.inl ⟨hc0,rfl⟩⟩
  ·by_cases hj1:j<n*z∨n*z+m*z≤j
   ·rw [hout j hj1];exact rm.has j hj
   ·obtain ⟨q,rfl⟩:∃ q,j=n*z+q:=⟨j-n*z,by omega⟩
    exact ⟨_,hin q (by omega)⟩
  ·unfold XD
   by_cases hj1:j<n*z
   ·rw [if_pos hj1,hout j (Or.inl hj1)];exact h.cell j hj1
   ·obtain ⟨q,rfl⟩:∃ q,j=n*z+q:=⟨j-n*z,by omega⟩
    rw [if_neg hj1,hin q (by omega),Nat.add_sub_cancel_left]
 ·obtain ⟨cap',w',hrun,hrow,hb',hle,hrm⟩:=Yp (P:=P) w t ty e z bytes zv ht hinf hz g (g+1) lo2 hi2 ad n cap c (h.src h1) ad2 m cap2 d hd (by omega) h63 hb
  exact ⟨_,cap',w.1.size,w',hrun,⟨fun _=>rfl,hle,fun _=>hrm hzv,fun j hj=>hrow.cell j hj⟩,FrP.of_below hb',Or.inr (lrf _)⟩
theorem E9 {w:World} {g n cap sz:Nat} {base:Nat} {e:TypeId} {xs:List Value} (ho:w.ownsRow base e sz (.slice (some ⟨g,0,none⟩) n cap) n xs):Room w g (cap*sz):=by
 refine ⟨fun j hj=>?_,fun j=>ho.frozenAt j,(ho.lt g rfl).2⟩
 rcases ho.2 with ⟨h,_⟩|⟨g',cap',cur,h,_,hg,_,_,hs,_⟩
 ·simp at h
 ·simp only [Value.slice.injEq,Option.some.injEq,Addr.mk.injEq,and_true,true_and] at h
  obtain ⟨rfl,rfl⟩:=h
  rw [cell_of_row w g j cur e (0,0) hg]
  exact ⟨cur[j]'(by omega),by simp [hs,hj]⟩
set_option maxRecDepth 100000 in
theorem Pf (n:Nat) (x:Nat→Sl) (ad:Option Addr) (cap:Nat) (w:World) (lo hi:Nat) (hhi:hi≤w.1.size) (hl:(n:Int)≤1099511627776) (hc:SlsIn w lo hi ad n x) :
  Calls Tryz.prog 82 #[.slice ad n cap] w fun e w'=>∃ ad' cap' b',e=.returned (.slice ad' n cap')∧SlsAt w' ad' b' n x∧w.1.size≤b'∧(n≠0→b'<w'.1.size)∧Below w.1.size w w'∧(∃ g,ad'=some ⟨g,0,none⟩)∧n≤cap'∧(n=0→cap'=0)∧(n≠0→Room w' b' (cap'*2)):=by
 have HC:=hid hc
 clear hc
 go_enter Tryz.func82,Tryz.ntmps82
 go_wp2_with ((with_reducible show wpList _ _ _ (⟨some 5,_,_,_,_,_⟩::_) _ _);obtain ⟨ad',cap',w',hrun,hrow,hb,hcl,hcz,hrm,hsm⟩:=YB (P:=Tryz.prog) (w.alloc (.cells #[] 109)) 32 32 109 2 24 (.agg #[.int .i64 0,.string ByteArray.empty]) Tryz.underlying32 Tryz.info109 (by omega) lo hi w.1.size ad n cap _ ((HC.out.below (Zb w (.cells #[] 109)) hhi).src) (by omega) (by omega);(simp only [World.size_alloc] at hrun hrow hb hrm);refine Zq rfl _ _ 32 32 rfl _ _ _ _ rfl rfl hrun ?_;have HR:=hid hrow;have HB:Below w.1.size w w':=(Zb w (.cells #[] 109)).trans (hb.mono (Nat.le_succ _));have HCL:=hid hcl;have HSM:=hid hsm;have HCZ:=hid hcz;have HRM:=hid (fun h0:n≠0=>hrm (by omega) rfl);clear hrun hrow hb hcl hsm hcz hrm)
 go_ret
 exact ⟨_,_,w.1.size+1,rfl,⟨fun h0=>(HR.out h0).1,fun h0=>⟨_,(HR.out h0).2,fun i _=>Ud x i⟩⟩,Nat.le_succ _,fun h0=>(HR.out (by omega)).2.lt,HB,HSM.out,HCL.out,HCZ.out,HRM.out⟩
theorem Gn {P:Prop} (h:P:=by
  iterate 4 refine FrP.setCell (P:=fun q=>q=w.1.size∨q=w.1.size+1) ?_ (by simp) _
  exact FrP.refl _ _):P:=h
set_option maxRecDepth 100000 in
theorem Pw (d:Dk) (ad:Option Addr) (cap:Nat) (w:World) (lo hi:Nat) (hhi:hi≤w.1.size) (hl:(d.n:Int)≤1099511627776) (hc:SlsIn w lo hi ad d.n d.s) :
  Calls Tryz.prog 32 #[dkV d ad cap] w fun e w'=>∃ ad' cap' b',e=.returned (dkV d ad' cap')∧SlsAt w' ad' b' d.n d.s∧w.1.size≤b'∧(d.n≠0→b'<w'.1.size)∧Below w.1.size w w'∧(∃ g,ad'=some ⟨g,0,none⟩)∧d.n≤cap'∧(d.n=0→cap'=0)∧(d.n≠0→Room w' b' (cap'*2)):=by
 have HC:=hid hc
 clear hc
 go_enter Tryz.func32,Tryz.ntmps32
 go_wp2_with fail
 refine (Pf d.n d.s ad cap _ lo hi (by simp;omega) hl (HC.out.below (B:=w.1.size) ((Zb _ _).alloc (by simp) _) hhi)).mono ?_
 rintro e w1 ⟨ad',cap',b',rfl,ho,hge,hlt,hb,hsm,hcl,hcz,hrm⟩
 have HSM:=hid hsm
 have HCZ:=hid hcz
 have HRM:=hid hrm
 clear hcz hrm
 have HCL:=hid hcl
 clear hsm hcl
 simp only [World.size_alloc] at hge
 obtain ⟨P1,R1,F1,F2⟩:=Xt hb
 have hB:Below w.1.size w w1:=((Zb _ _).alloc (by simp) _).trans (hb.mono (by simp;omega))
 have hz:w.1.size+1<w1.1.size:=by have:=hb.size;simp at this;omega
 have HO:=hid ho
 have HL:=hid hlt
 have q0:w1.cell? ⟨w.1.size,0,none⟩=some (.int .i64 d.pr):=P1 0
 have q1:w1.cell? ⟨w.1.size,1,none⟩=some (.int .i64 d.kn):=P1 1
 have q2:w1.cell? ⟨w.1.size,2,none⟩=some (.slice ad d.n cap):=P1 2
 have s0:w1.cell? ⟨w.1.size+1,0,none⟩=some (.int .i64 0):=R1 0
 have s1:w1.cell? ⟨w.1.size+1,1,none⟩=some (.int .i64 0):=R1 1
 have s2:w1.cell? ⟨w.1.size+1,2,none⟩=some (.slice none 0 0):=R1 2
 clear hb P1 R1 ho hlt
 go_wp2
 refine bodyPost_ret (v:=dkV d ad' cap') (by simp [results,Tryz.results32,go_sem,s0,s1,s2]) rfl ⟨ad',cap',b',rfl,?_,by omega,fun h0=>?_,?_,HSM.out,HCL.out,HCZ.out,fun h0=>?_⟩
 ·refine HO.out.frP (P:=fun q=>q=w.1.size∨q=w.1.size+1) ?_ (fun h0=>⟨by omega,HL.out h0⟩)
  exact Gn
 ·have:=HL.out h0
  simp only [World.size_setCell]
  exact this
 ·refine hB.trans (FrP.below (P:=fun q=>q=w.1.size∨q=w.1.size+1) ?_ (fun k hk e=>by omega) hB.size)
  exact Gn
 ·refine Ye (P:=fun q=>q=w.1.size∨q=w.1.size+1) (HRM.out h0) ?_ (by omega)
  exact Gn
set_option maxRecDepth 100000 in
theorem UK (n:Nat) (x:Nat→Ms) (ad:Option Addr) (cap:Nat) (w:World) (lo hi:Nat) (hhi:hi≤w.1.size) (hl:(n:Int)≤1048576) (hf:∀ i,i<n→((x i).n:Int)≤1048576) (hc:MssIn w lo hi ad n x) :
  Calls Tryz.prog 36 #[.slice ad n cap] w fun e w'=>∃ ad' cap' g A C hb,e=.returned (.slice ad' n cap')∧MssAt w' ad' g n x A C hb∧(∀ q,blkH g n (fun i=>(x i).n) hb q→w.1.size≤q∧q<w'.1.size)∧Below w.1.size w w'∧n≤cap'∧(n=0→cap'=0)∧(n≠0→Room w' g (cap'*8)):=by
 obtain ⟨i0,hi0,hz0,hz1,hz2⟩:=info_parts Tryz.info52
 have HC:=hid hc
 have HF:=hid hf
 clear hc hf
 go_enter Tryz.func36,Tryz.ntmps36
 go_wp2
 have bd0:BdMs (w.alloc (.cells #[] 52)) w.1.size (.slice (some ⟨w.1.size,0,none⟩) 0 0) 0 x (fun _=>none) (fun _=>0) (fun _=>0):=
  ⟨⟨fun _=>.int .i64 0,by simpa [Zg] using World.ownsRow_made (base:=w.1.size) (e:=52) (size:=8) w #[] 0 (lrf _) (zle _) rfl,fun i hi=>absurd hi (nlz _)⟩,fun i hi=>absurd hi (nlz _),fun i hi=>absurd hi (nlz _),fun i hi=>absurd hi (nlz _),fun i j hi=>absurd hi (nlz _)⟩
 go_loopw [3,4] (fun o i wr=>∃ (k:Nat) (A:Nat→Option Addr) (C hb:Nat→Nat),k≤n∧i=.int .i64 k∧Below w.1.size w wr∧BdMs wr w.1.size o k x A C hb∧Hid (k=0→o=.slice (some ⟨w.1.size,0,none⟩) 0 0)) (fun _ i _=>n-(intOf i).toNat)
 case atStart=>exact ⟨0,_,_,_,zle _,rfl,Zb _ _,bd0,fun _=>rfl⟩
 case round=>
  clear bd0
  obtain ⟨k,A,C,hb,hk,rfl,b0,bd,HZ⟩:=hrel
  by_cases hkn:k<n
  ·obtain ⟨b,off,ah,ch,rfl,hlo,hbh,hcx,hsx⟩:=HC.out k hkn
   have hfk:=HF.out k hkn
   obtain ⟨e0,e1,e2,e3,e4,e5,e6,e7⟩:=hcx.below b0 (by omega)
   have HSX:=hid (hsx.below b0 hhi)
   have zr:=b0.size
   have BD:=hid bd
   clear hcx hsx bd
   go_wp2_with fail
   refine (Es (x k) ah ch _ lo hi (by omega) (by omega) HSX.out).mono ?_
   rintro e w1 ⟨ad',cap',b',rfl,ho1,hg1,hl1,hb1⟩
   have z1:=hb1.size
   have HO1:=hid ho1
   have HL1:Hid ((x k).n≠0→wr.1.size≤b'∧b'<w1.1.size):=fun h0=>⟨hg1,hl1 h0⟩
   have BD1:=hid ((BD.out.grow hb1).grow (Zb w1 (.cells #[.int .i64 (x k).kind,.int .i64 (x k).from_,.int .i64 (x k).to,.int .i64 (x k).bal,.int .i64 (x k).ix,.int .i64 (x k).kn,.string (x k).text,.slice ad' (x k).n cap'] 52)))
   obtain ⟨c,hown,hat⟩:=BD1.out.row
   have HAT:=hid hat
   clear ho1 hl1 hg1 e0 e1 e2 e3 e4 e5 e6 e7 hat
   go_wp2_with (at_builtin;go_must (refine wpList_append_own_at _ rfl _ _ 35 rfl w.1.size 52 i0 _ 8 88 Tryz.underlying35 hi0 hz0 hz1 hz2 rfl (by decide) _ k (Zg (k*8) c) rfl hown ⟨w1.1.size,0,none⟩ 1 1 [.int .i64 (x k).kind,.int .i64 (x k).from_,.int .i64 (x k).to,.int .i64 (x k).bal,.int .i64 (x k).ix,.int .i64 (x k).kn,.string (x k).text,.slice ad' (x k).n cap'] rfl rfl (Ut w1 _ 52) (by simp [Value.oneCell']) (by unfold maxLen;omega) (by omega) (by simp;omega) ?_;intro v' w2 hown2 hgrow2 hnil2 hat2;clear hnil2))
   have hg2:=hgrow2.size
   have FB:∀ o,FrP (fun _=>False) w1 (w1.alloc o):=fun o=>FrP.of_below (Zb w1 o)
   have BD2:=hid (BD1.out.app (cap':=cap') HAT.out hown2 hgrow2 hat2 (HO1.out.frP (FB _) (fun h0=>⟨fun h=>h,(HL1.out h0).2⟩)) (fun h0=>⟨by have:=(HL1.out h0).1;omega,by have:=(HL1.out h0).2;simp;omega⟩)
    (fun h0 e=>by
     obtain ⟨c0,r0,_⟩:=BD.out.row
     have h1:=(r0.lt _ e).2
     have h2:=(HL1.out h0).1
     omega)
    (fun i hi h0 h1 e=>by
     have h2:=(BD.out.hlt i hi h0).2
     have h3:=(HL1.out h1).1
     omega))
   have B2:Below w.1.size w w2:=by
    obtain ⟨c0,r0,_⟩:=BD.out.row
    exact ((b0.trans (hb1.mono zr)).alloc (by omega) _).trans ((FrP.of_grown hgrow2).below (fun q hq e=>by have:=(r0.lt q e).1;omega) (by simp;omega))
   clear hown hown2 hgrow2 hat2 FB
   go_wp2
   go_roundw
   case rel=>exact ⟨k+1,_,_,_,by omega,by go_num,B2,BD2.out,(fun h=>absurd h (Nat.succ_ne_zero k):k+1=0→_)⟩
   case measure=>simp [intOf];omega
  ·have hke:k=n:=by omega
   subst hke
   obtain ⟨ad',cap',g,e,at',hq⟩:=bd.done
   have HRM:Hid (k≤cap'∧(k=0→cap'=0)∧(k≠0→Room wr g (cap'*8))):=by
    obtain ⟨c9,r9,_⟩:=bd.row
    rw [e] at r9
    refine ⟨?_,fun h0=>?_,fun h0=>?_⟩
    ·rcases r9.2 with ⟨h,h2⟩|⟨g',cap9,cur,h,_,hg,hl,_⟩
     ·omega
     ·cases h;exact hl
    ·have:=HZ.out h0
     rw [e] at this
     cases this;rfl
    ·have:=at'.addr (by omega)
     subst this
     exact E9 r9
   subst e
   have AT':=hid at'
   clear at' bd
   go_wp2
   go_ret
   exact ⟨ad',cap',g,A,C,hb,rfl,AT'.out,fun q h=>⟨hq q h,AT'.out.blt h⟩,b0,HRM.out⟩
structure RmOk (w:World) (r:Rc) (p:RcP):Prop where
 dl:r.dk.n≤p.A.dc
 d0:r.dk.n=0→p.A.dc=0
 dr:r.dk.n≠0→Room w p.g1 (p.A.dc*2)
 hl:r.hn≤p.A.hc
 h0:r.hn=0→p.A.hc=0
 hr:r.hn≠0→Room w p.g2 (p.A.hc*8)
structure Gq (r:Rc) (p:RcP):Prop where
 yl:r.yn≤p.A.yc
 al:r.an≤p.A.ac
 fl:∀ i,i<r.an→(r.as_ i).n≤p.AC i
 bl:r.bn≤p.A.bc
 bs:∃ g,p.A.ba=some ⟨g,0,none⟩
theorem Ov {w:World} {base:Nat} {e:TypeId} {z:Nat} {ad:Option Addr} {n cap:Nat} {xs:List Value} (h:w.ownsRow base e z (.slice ad n cap) n xs):n≤cap:=by
 rcases h.2 with ⟨h1,h2⟩|⟨g,cap',cur,h1,_,_,h2,_⟩
 ·cases h1;omega
 ·cases h1;exact h2
set_option maxRecDepth 100000 in
theorem Y8 (r:Rc) (A:RcA) (w:World) (lo hi:Nat) (hhi:hi≤w.1.size) (hm:ZW r) (hc:RcIn w lo hi r A) :
  Calls Tryz.prog 31 #[rcV r A] w fun e w'=>∃ p:RcP,e=.returned (rcV r p.A)∧RcAt w' r p∧WsOk w' r p∧RmOk w' r p∧(∀ k,rbs p r k→w.1.size≤k)∧Below w.1.size w w'∧Gq r p:=by
 have HM:=hid hm
 have HI:=hid hc
 clear hm hc
 go_enter Tryz.func31,Tryz.ntmps31
 go_wp2_with fail
 refine (N2 r.sf A.sa A.sc _ lo hi (by simp;omega) (by have:=HM.out.sf;omega) (HI.out.below (B:=w.1.size) (((br _ _).alloc (lrf _) _).alloc (by simp) _) hhi).sf).mono ?_
 rintro e w1 ⟨a0,c0,g0,rfl,o0,ge0,lt0,hb0,_⟩
 simp only [World.size_alloc] at ge0
 have l0:r.sf.n≠0→w.1.size+1+1≤g0∧g0<w1.1.size:=fun h0=>⟨ge0,lt0 h0⟩
 have hB0:Below w.1.size w w1:=(((br _ _).alloc (lrf _) _).alloc (by simp) _).trans (hb0.mono (by simp;omega))
 obtain ⟨P1,R1,F1,F2⟩:=Xt hb0
 have hz1:w.1.size+1+1≤w1.1.size:=by have:=hb0.size;simp at this;omega
 have Q0:Hid (Bx w1 w.1.size #[.int .i64 r.num,.int .i64 r.of,.bool r.up,.int .i64 r.sf.pr,.int .i64 r.sf.kn,.slice A.sa r.sf.n A.sc,.int .i64 r.dk.pr,.int .i64 r.dk.kn,.slice A.da r.dk.n A.dc,.slice A.ha r.hn A.hc,.slice A.wa r.wn A.wc,.bool r.ld,.bool r.tr,.int .i64 r.bal,.slice A.ya r.yn A.yc,.slice A.ba r.bn A.bc,.slice A.aa r.an A.ac,.int .i64 r.hd]):=⟨P1,F1,by omega⟩
 have Z0:Hid (Bx w1 (w.1.size+1) #[.int .i64 0,.int .i64 0,.bool false,.int .i64 0,.int .i64 0,.slice none 0 0,.int .i64 0,.int .i64 0,.slice none 0 0,.slice none 0 0,.slice none 0 0,.bool false,.bool false,.int .i64 0,.slice none 0 0,.slice none 0 0,.slice none 0 0,.int .i64 0]):=⟨R1,F2,by omega⟩
 clear hb0 P1 R1 F1 F2 ge0 lt0
 have O0_0:=hid o0
 have L0:=hid l0
 clear o0 l0
 obtain ⟨p0,p1,p2,p3,p4,p5,p6,p7,p8,p9,ze,zc,za,zd,zi,zj,zg,zh⟩:=Ze Q0.out.cell
 have qf:=Q0.out.free
 have qlt:=Q0.out.lt
 go_wp2_with fail
 refine (Pw r.dk A.da A.dc _ lo hi (by simp only [World.size_setCell];omega) (by have:=HM.out.dk;omega) (HI.out.below (B:=w.1.size) ((((hB0.setCell (p:=⟨w.1.size,3,none⟩) (lrf _) (.int .i64 r.sf.pr)).setCell (p:=⟨w.1.size,4,none⟩) (lrf _) (.int .i64 r.sf.kn)).setCell (p:=⟨w.1.size,5,none⟩) (lrf _) (.slice a0 r.sf.n c0))) hhi).dk).mono ?_
 clear p0 p1 p2 p3 p4 p5 p6 p7 p8 p9 ze zc za zd zi zj zg zh qf qlt
 rintro e w2 ⟨a1,c1,g1,rfl,o1,ge1,lt1,hb1,sm1,cl1,cz1,rm1⟩
 have SM1:=hid sm1
 have CL1:=hid cl1
 have CZ1:=hid cz1
 have DM_1:=hid rm1
 clear cz1 rm1
 clear sm1 cl1
 simp only [World.size_setCell] at ge1
 have l1:r.dk.n≠0→w1.1.size≤g1∧g1<w2.1.size:=fun h0=>⟨ge1,lt1 h0⟩
 clear ge1 lt1
 have hx1:Below w1.1.size (((w1.setCell ⟨w.1.size,3,none⟩ (.int .i64 r.sf.pr)).setCell ⟨w.1.size,4,none⟩ (.int .i64 r.sf.kn)).setCell ⟨w.1.size,5,none⟩ (.slice a0 r.sf.n c0)) w2:=hb1.mono (by simp only [World.size_setCell];exact lrf _)
 have fr1:FrP (fun q=>q=w.1.size) w1 w2:=((((FrP.refl (fun q=>q=w.1.size) w1).setCell (p:=⟨w.1.size,3,none⟩) rfl (.int .i64 r.sf.pr)).setCell (p:=⟨w.1.size,4,none⟩) rfl (.int .i64 r.sf.kn)).setCell (p:=⟨w.1.size,5,none⟩) rfl (.slice a0 r.sf.n c0)).trans (FrP.of_below2 hx1 (by simp only [World.size_setCell];exact lrf _))
 have hB1:Below w.1.size w w2:=((((hB0.setCell (p:=⟨w.1.size,3,none⟩) (lrf _) (.int .i64 r.sf.pr)).setCell (p:=⟨w.1.size,4,none⟩) (lrf _) (.int .i64 r.sf.kn)).setCell (p:=⟨w.1.size,5,none⟩) (lrf _) (.slice a0 r.sf.n c0))).trans (hx1.mono (by omega))
 have hz2:w1.1.size≤w2.1.size:=fr1.size
 have Q1:=hid ((((((((Q0.out).to (J7 (Q0.out).cell (.int .i64 r.sf.pr)))).to (hset4 (((Q0.out).to (J7 (Q0.out).cell (.int .i64 r.sf.pr)))).cell (.int .i64 r.sf.kn)))).to (hset5 (((((Q0.out).to (J7 (Q0.out).cell (.int .i64 r.sf.pr)))).to (hset4 (((Q0.out).to (J7 (Q0.out).cell (.int .i64 r.sf.pr)))).cell (.int .i64 r.sf.kn)))).cell (.slice a0 r.sf.n c0)))).below hx1 (by omega))
 have Z1:=hid (Z0.out.frP fr1 (by omega))
 have O0_1:=hid (O0_0.out.frP fr1 (fun h0=>⟨by have:=L0.out h0;omega,by have:=L0.out h0;omega⟩))
 clear hx1 fr1 Q0 Z0 hB0 hb1 O0_0
 have O1_1:=hid o1
 have L1:=hid l1
 clear o1 l1
 obtain ⟨p0,p1,p2,p3,p4,p5,p6,p7,p8,p9,ze,zc,za,zd,zi,zj,zg,zh⟩:=Ze Q1.out.cell
 have qf:=Q1.out.free
 have qlt:=Q1.out.lt
 go_wp2_with fail
 refine (UK r.hn r.hs A.ha A.hc _ lo hi (by simp only [World.size_setCell];omega) HM.out.hn HM.out.hs (HI.out.below (B:=w.1.size) ((((hB1.setCell (p:=⟨w.1.size,6,none⟩) (lrf _) (.int .i64 r.dk.pr)).setCell (p:=⟨w.1.size,7,none⟩) (lrf _) (.int .i64 r.dk.kn)).setCell (p:=⟨w.1.size,8,none⟩) (lrf _) (.slice a1 r.dk.n c1))) hhi).hs).mono ?_
 clear p0 p1 p2 p3 p4 p5 p6 p7 p8 p9 ze zc za zd zi zj zg zh qf qlt
 rintro e w3 ⟨a2,c2,g2,A2,C2,h2,rfl,o2,l2,hb2,ml2,mz2,mr2⟩
 have ML2:=hid ml2
 have MZ2:=hid mz2
 have HR_2:=hid mr2
 clear ml2 mz2 mr2
 simp only [World.size_setCell] at l2
 have hx2:Below w2.1.size (((w2.setCell ⟨w.1.size,6,none⟩ (.int .i64 r.dk.pr)).setCell ⟨w.1.size,7,none⟩ (.int .i64 r.dk.kn)).setCell ⟨w.1.size,8,none⟩ (.slice a1 r.dk.n c1)) w3:=hb2.mono (by simp only [World.size_setCell];exact lrf _)
 have fr2:FrP (fun q=>q=w.1.size) w2 w3:=((((FrP.refl (fun q=>q=w.1.size) w2).setCell (p:=⟨w.1.size,6,none⟩) rfl (.int .i64 r.dk.pr)).setCell (p:=⟨w.1.size,7,none⟩) rfl (.int .i64 r.dk.kn)).setCell (p:=⟨w.1.size,8,none⟩) rfl (.slice a1 r.dk.n c1)).trans (FrP.of_below2 hx2 (by simp only [World.size_setCell];exact lrf _))
 have hB2:Below w.1.size w w3:=((((hB1.setCell (p:=⟨w.1.size,6,none⟩) (lrf _) (.int .i64 r.dk.pr)).setCell (p:=⟨w.1.size,7,none⟩) (lrf _) (.int .i64 r.dk.kn)).setCell (p:=⟨w.1.size,8,none⟩) (lrf _) (.slice a1 r.dk.n c1))).trans (hx2.mono (by omega))
 have hz3:w2.1.size≤w3.1.size:=fr2.size
 have Q2:=hid ((((((((Q1.out).to (YT (Q1.out).cell (.int .i64 r.dk.pr)))).to (Jp (((Q1.out).to (YT (Q1.out).cell (.int .i64 r.dk.pr)))).cell (.int .i64 r.dk.kn)))).to (hset8 (((((Q1.out).to (YT (Q1.out).cell (.int .i64 r.dk.pr)))).to (Jp (((Q1.out).to (YT (Q1.out).cell (.int .i64 r.dk.pr)))).cell (.int .i64 r.dk.kn)))).cell (.slice a1 r.dk.n c1)))).below hx2 (by omega))
 have Z2:=hid (Z1.out.frP fr2 (by omega))
 have DM_2:=hid (fun h0:r.dk.n≠0=>Ye (DM_1.out h0) fr2 (by have:=L1.out h0;omega))
 have O0_2:=hid (O0_1.out.frP fr2 (fun h0=>⟨by have:=L0.out h0;omega,by have:=L0.out h0;omega⟩))
 have O1_2:=hid (O1_1.out.frP fr2 (fun h0=>⟨by have:=L1.out h0;omega,by have:=L1.out h0;omega⟩))
 clear hx2 fr2 Q1 Z1 hB1 hb2 O0_1 O1_1
 have O2_2:=hid o2
 have L2:=hid l2
 clear o2 l2
 obtain ⟨p0,p1,p2,p3,p4,p5,p6,p7,p8,p9,ze,zc,za,zd,zi,zj,zg,zh⟩:=Ze Q2.out.cell
 have qf:=Q2.out.free
 have qlt:=Q2.out.lt
 go_wp2_with (first|((with_reducible show wpList _ _ _ (⟨some 20,_,_,_,_,_⟩::_) _ _);obtain ⟨a3,c3,w4,hrun,hrow,hb3,hcl,hcz,hrm,_⟩:=YB (P:=Tryz.prog) ((w3.setCell ⟨w.1.size,9,none⟩ (.slice a2 r.hn c2)).alloc (.cells #[] 9)) 26 26 9 1 16 (.string ByteArray.empty) Tryz.underlying26 Tryz.info9 (by omega) lo hi w3.1.size A.wa r.wn A.wc _ ((HI.out.below (B:=w.1.size) (((hB2.setCell (p:=⟨w.1.size,9,none⟩) (lrf _) (.slice a2 r.hn c2))).alloc (by simp only [World.size_setCell];omega) _) hhi).ws.src) (by have:=HM.out.wn;omega) (by have:=HM.out.wn;omega);(simp only [World.size_alloc,World.size_setCell] at hrun hrow hb3 hrm);refine Zq rfl _ _ 26 26 rfl _ _ _ _ rfl rfl hrun ?_;have l3:r.wn≠0→w3.1.size≤w3.1.size+1∧w3.1.size+1<w4.1.size:=fun h0=>⟨Nat.le_succ _,(hrow (by omega)).2.lt⟩;have o3:StrsOwn w4 (w3.1.size+1) (w3.1.size+1+1) a3 r.wn r.ws:=fun i hi=>(by obtain ⟨r1,r2⟩:=hrow (by omega);subst r1;exact r2.strs i hi);have WL:=hid hcl;have WZ:=hid hcz;have WA:=hid (fun h0:r.wn≠0=>(hrow (by omega)).1);have RM_3:=hid (fun h0:r.wn≠0=>(Nat.mul_one c3▸hrm (by omega) rfl:Room w4 (w3.1.size+1) c3));clear hrun hrow hcl hcz hrm;(clear p0 p1 p2 p3 p4 p5 p6 p7 p8 p9 ze zc za zd zi zj zg zh qf qlt);have hx3:Below w3.1.size (w3.setCell ⟨w.1.size,9,none⟩ (.slice a2 r.hn c2)) w4:=((Zb (w3.setCell ⟨w.1.size,9,none⟩ (.slice a2 r.hn c2)) (.cells #[] 9)).mono (by simp only [World.size_setCell];exact lrf _)).trans (hb3.mono (Nat.le_succ _));have fr3:FrP (fun q=>q=w.1.size) w3 w4:=((FrP.refl (fun q=>q=w.1.size) w3).setCell (p:=⟨w.1.size,9,none⟩) rfl (.slice a2 r.hn c2)).trans (FrP.of_below2 hx3 (by simp only [World.size_setCell];exact lrf _));have hB3:Below w.1.size w w4:=((hB2.setCell (p:=⟨w.1.size,9,none⟩) (lrf _) (.slice a2 r.hn c2))).trans (hx3.mono (by omega));have hz4:w3.1.size≤w4.1.size:=fr3.size;have Q3:=hid ((((Q2.out).to (hset9 (Q2.out).cell (.slice a2 r.hn c2)))).below hx3 (by omega));have Z3:=hid (Z2.out.frP fr3 (by omega));have DM_3:=hid (fun h0:r.dk.n≠0=>Ye (DM_2.out h0) fr3 (by have:=L1.out h0;omega));have HR_3:=hid (fun h0:r.hn≠0=>Ye (HR_2.out h0) fr3 (by have:=L2.out g2 (Or.inl ⟨Nat.pos_of_ne_zero h0,rfl⟩);omega));have O0_3:=hid (O0_2.out.frP fr3 (fun h0=>⟨by have:=L0.out h0;omega,by have:=L0.out h0;omega⟩));have O1_3:=hid (O1_2.out.frP fr3 (fun h0=>⟨by have:=L1.out h0;omega,by have:=L1.out h0;omega⟩));have O2_3:=hid (O2_2.out.fr fr3 (fun k hk e=>by have:=L2.out k hk;omega));clear hx3 fr3 Q2 Z2 hB2 hb3 O0_2 O1_2 O2_2;have O3_3:=hid o3;have L3:=hid l3;clear o3 l3;obtain ⟨p0,p1,p2,p3,p4,p5,p6,p7,p8,p9,ze,zc,za,zd,zi,zj,zg,zh⟩:=Ze Q3.out.cell;have qf:=Q3.out.free;have qlt:=Q3.out.lt)|((with_reducible show wpList _ _ _ (⟨some 25,_,_,_,_,_⟩::_) _ _);obtain ⟨a4,c4,w5,hrun,hrow,hb4,hcl,hcz,hrm,_⟩:=YB (P:=Tryz.prog) ((w4.setCell ⟨w.1.size,10,none⟩ (.slice a3 r.wn c3)).alloc (.cells #[] 3)) 27 27 3 1 8 (.int .i64 0) Tryz.underlying27 Tryz.info3 (by omega) lo hi w4.1.size A.ya r.yn A.yc _ ((HI.out.below (B:=w.1.size) (((hB3.setCell (p:=⟨w.1.size,10,none⟩) (lrf _) (.slice a3 r.wn c3))).alloc (by simp only [World.size_setCell];omega) _) hhi).ys.src) (by have:=HM.out.yn;omega) (by have:=HM.out.yn;omega);(simp only [World.size_alloc,World.size_setCell] at hrun hrow hb4 hrm);refine Zq rfl _ _ 27 27 rfl _ _ _ _ rfl rfl hrun ?_;have l4:r.yn≠0→w4.1.size≤w4.1.size+1∧w4.1.size+1<w5.1.size:=fun h0=>⟨Nat.le_succ _,(hrow (by omega)).2.lt⟩;have o4:IntsOwn w5 (w4.1.size+1) (w4.1.size+1+1) a4 r.yn r.ys:=fun i hi=>(by obtain ⟨r1,r2⟩:=hrow (by omega);subst r1;exact r2.ints i hi);have YL:=hid hcl;clear hrun hrow hcl hcz hrm;(clear p0 p1 p2 p3 p4 p5 p6 p7 p8 p9 ze zc za zd zi zj zg zh qf qlt);have hx4:Below w4.1.size (w4.setCell ⟨w.1.size,10,none⟩ (.slice a3 r.wn c3)) w5:=((Zb (w4.setCell ⟨w.1.size,10,none⟩ (.slice a3 r.wn c3)) (.cells #[] 3)).mono (by simp only [World.size_setCell];exact lrf _)).trans (hb4.mono (Nat.le_succ _));have fr4:FrP (fun q=>q=w.1.size) w4 w5:=((FrP.refl (fun q=>q=w.1.size) w4).setCell (p:=⟨w.1.size,10,none⟩) rfl (.slice a3 r.wn c3)).trans (FrP.of_below2 hx4 (by simp only [World.size_setCell];exact lrf _));have hB4:Below w.1.size w w5:=((hB3.setCell (p:=⟨w.1.size,10,none⟩) (lrf _) (.slice a3 r.wn c3))).trans (hx4.mono (by omega));have hz5:w4.1.size≤w5.1.size:=fr4.size;have Q4:=hid ((((Q3.out).to (Um (Q3.out).cell (.slice a3 r.wn c3)))).below hx4 (by omega));have Z4:=hid (Z3.out.frP fr4 (by omega));have DM_4:=hid (fun h0:r.dk.n≠0=>Ye (DM_3.out h0) fr4 (by have:=L1.out h0;omega));have HR_4:=hid (fun h0:r.hn≠0=>Ye (HR_3.out h0) fr4 (by have:=L2.out g2 (Or.inl ⟨Nat.pos_of_ne_zero h0,rfl⟩);omega));have O0_4:=hid (O0_3.out.frP fr4 (fun h0=>⟨by have:=L0.out h0;omega,by have:=L0.out h0;omega⟩));have O1_4:=hid (O1_3.out.frP fr4 (fun h0=>⟨by have:=L1.out h0;omega,by have:=L1.out h0;omega⟩));have O2_4:=hid (O2_3.out.fr fr4 (fun k hk e=>by have:=L2.out k hk;omega));have O3_4:=hid (O3_3.out.frP fr4 (fun h0=>⟨by have:=L3.out h0;omega,by have:=L3.out h0;omega⟩));have RM_4:=hid (fun h0:r.wn≠0=>Ye (RM_3.out h0) fr4 (by have:=L3.out h0;omega));clear hx4 fr4 Q3 Z3 hB3 hb4 O0_3 O1_3 O2_3 O3_3 RM_3;have O4_4:=hid o4;have L4:=hid l4;clear o4 l4;obtain ⟨p0,p1,p2,p3,p4,p5,p6,p7,p8,p9,ze,zc,za,zd,zi,zj,zg,zh⟩:=Ze Q4.out.cell;have qf:=Q4.out.free;have qlt:=Q4.out.lt))
 refine (XK r.bn r.bs A.ba A.bc _ lo hi (by simp only [World.size_setCell];omega) (by have:=HM.out.bn;omega) (HI.out.below (B:=w.1.size) ((hB4.setCell (p:=⟨w.1.size,14,none⟩) (lrf _) (.slice a4 r.yn c4))) hhi).bs).mono ?_
 clear p0 p1 p2 p3 p4 p5 p6 p7 p8 p9 ze zc za zd zi zj zg zh qf qlt
 rintro e w6 ⟨a5,c5,g5,rfl,o5,ge5,lt5,hb5,sm5,cl5⟩
 have SM5:=hid sm5
 have CL5:=hid cl5
 clear sm5 cl5
 simp only [World.size_setCell] at ge5
 have l5:r.bn≠0→w5.1.size≤g5∧g5<w6.1.size:=fun h0=>⟨ge5,lt5 h0⟩
 clear ge5 lt5
 have hx5:Below w5.1.size (w5.setCell ⟨w.1.size,14,none⟩ (.slice a4 r.yn c4)) w6:=hb5.mono (by simp only [World.size_setCell];exact lrf _)
 have fr5:FrP (fun q=>q=w.1.size) w5 w6:=((FrP.refl (fun q=>q=w.1.size) w5).setCell (p:=⟨w.1.size,14,none⟩) rfl (.slice a4 r.yn c4)).trans (FrP.of_below2 hx5 (by simp only [World.size_setCell];exact lrf _))
 have hB5:Below w.1.size w w6:=((hB4.setCell (p:=⟨w.1.size,14,none⟩) (lrf _) (.slice a4 r.yn c4))).trans (hx5.mono (by omega))
 have hz6:w5.1.size≤w6.1.size:=fr5.size
 have Q5:=hid ((((Q4.out).to (YU (Q4.out).cell (.slice a4 r.yn c4)))).below hx5 (by omega))
 have Z5:=hid (Z4.out.frP fr5 (by omega))
 have DM_5:=hid (fun h0:r.dk.n≠0=>Ye (DM_4.out h0) fr5 (by have:=L1.out h0;omega))
 have HR_5:=hid (fun h0:r.hn≠0=>Ye (HR_4.out h0) fr5 (by have:=L2.out g2 (Or.inl ⟨Nat.pos_of_ne_zero h0,rfl⟩);omega))
 have O0_5:=hid (O0_4.out.frP fr5 (fun h0=>⟨by have:=L0.out h0;omega,by have:=L0.out h0;omega⟩))
 have O1_5:=hid (O1_4.out.frP fr5 (fun h0=>⟨by have:=L1.out h0;omega,by have:=L1.out h0;omega⟩))
 have O2_5:=hid (O2_4.out.fr fr5 (fun k hk e=>by have:=L2.out k hk;omega))
 have O3_5:=hid (O3_4.out.frP fr5 (fun h0=>⟨by have:=L3.out h0;omega,by have:=L3.out h0;omega⟩))
 have O4_5:=hid (O4_4.out.frP fr5 (fun h0=>⟨by have:=L4.out h0;omega,by have:=L4.out h0;omega⟩))
 have RM_5:=hid (fun h0:r.wn≠0=>Ye (RM_4.out h0) fr5 (by have:=L3.out h0;omega))
 clear hx5 fr5 Q4 Z4 hB4 hb5 O0_4 O1_4 O2_4 O3_4 O4_4 RM_4
 have O5_5:=hid o5
 have L5:=hid l5
 clear o5 l5
 obtain ⟨p0,p1,p2,p3,p4,p5,p6,p7,p8,p9,ze,zc,za,zd,zi,zj,zg,zh⟩:=Ze Q5.out.cell
 have qf:=Q5.out.free
 have qlt:=Q5.out.lt
 have hx6:Below w6.1.size (w6.setCell ⟨w.1.size,15,none⟩ (.slice a5 r.bn c5)) ((w6.setCell ⟨w.1.size,15,none⟩ (.slice a5 r.bn c5)).alloc (.cells #[] 108)):=(Zb (w6.setCell ⟨w.1.size,15,none⟩ (.slice a5 r.bn c5)) (.cells #[] 108)).mono (by simp only [World.size_setCell];exact lrf _)
 have fr6:=hid (((FrP.refl (fun q=>q=w.1.size) w6).setCell (p:=⟨w.1.size,15,none⟩) rfl (.slice a5 r.bn c5)).trans (FrP.of_below2 (P:=fun q=>q=w.1.size) hx6 (by simp only [World.size_setCell];exact lrf _)))
 have hB6:Below w.1.size w ((w6.setCell ⟨w.1.size,15,none⟩ (.slice a5 r.bn c5)).alloc (.cells #[] 108)):=((hB5.setCell (p:=⟨w.1.size,15,none⟩) (lrf _) (.slice a5 r.bn c5))).trans (hx6.mono (by omega))
 have Q6:=hid ((((Q5.out).to (XI (Q5.out).cell (.slice a5 r.bn c5)))).below hx6 (by omega))
 have bd0:Hid (BdAk ((w6.setCell ⟨w.1.size,15,none⟩ (.slice a5 r.bn c5)).alloc (.cells #[] 108)) w6.1.size (.slice (some ⟨w6.1.size,0,none⟩) 0 0) 0 r.as_ (fun _=>none) (fun _=>0) (fun _=>0)):=
  ⟨⟨fun _=>.int .i64 0,by simpa [Zg,World.size_setCell] using World.ownsRow_made (base:=w6.1.size) (e:=108) (size:=2) (w6.setCell ⟨w.1.size,15,none⟩ (.slice a5 r.bn c5)) #[] 0 (by simp only [World.size_setCell];exact lrf _) (zle _) rfl,fun i hi=>absurd hi (nlz _)⟩,fun i hi=>absurd hi (nlz _),fun i hi=>absurd hi (nlz _),fun i hi=>absurd hi (nlz _),fun i j hi=>absurd hi (nlz _)⟩
 have hz7:w6.1.size<((w6.setCell ⟨w.1.size,15,none⟩ (.slice a5 r.bn c5)).alloc (.cells #[] 108)).1.size:=by simp
 clear hx6
 go_wp2
 clear p0 p1 p2 p3 p4 p5 p6 p7 p8 p9 ze zc za zd zi zj zg zh qf qlt
 go_loopw [3,4] (fun o i wr=>∃ (o9:Value) (k:Nat) (A':Nat→Option Addr) (C' hb:Nat→Nat),o9=o∧k≤r.an∧i=.int .i64 k∧Below w.1.size w wr∧FrP (fun q=>q=w.1.size∨w6.1.size≤q) w6 wr∧Bx wr w.1.size #[.int .i64 r.num,.int .i64 r.of,.bool r.up,.int .i64 r.sf.pr,.int .i64 r.sf.kn,.slice a0 r.sf.n c0,.int .i64 r.dk.pr,.int .i64 r.dk.kn,.slice a1 r.dk.n c1,.slice a2 r.hn c2,.slice a3 r.wn c3,.bool r.ld,.bool r.tr,.int .i64 r.bal,.slice a4 r.yn c4,.slice a5 r.bn c5,.slice A.aa r.an A.ac,.int .i64 r.hd]∧BdAk wr w6.1.size o9 k r.as_ A' C' hb∧(∀ i,i<k→(r.as_ i).n≤C' i)) (fun _ i _=>r.an-(intOf i).toNat)
 case atStart=>exact ⟨_,0,_,_,_,rfl,zle _,rfl,hB6,fr6.out.mono (fun q hq=>Or.inl hq),Q6.out,bd0.out,fun i hi=>absurd hi (nlz _)⟩
 case round=>
  obtain ⟨o9,k,A',C',hb,rfl,hk,rfl,b0,fx,bx,bd,fl⟩:=hrel
  have FL:=hid fl
  clear fl
  clear bd0
  by_cases hkn:k<r.an
  ·obtain ⟨b,off,ah,ch,hA,hlo,hbh,hcx,hsx⟩:=HI.out.as_ k hkn
   obtain ⟨e0,e1⟩:=hcx.below b0 (by omega)
   have HSX:=hid (hsx.below b0 hhi)
   have hfk:Hid (((r.as_ k).n:Int)≤1048576):=HM.out.as_ k hkn
   have hnn:Hid ((r.an:Int)≤1048576):=HM.out.an
   have BD:=hid bd
   have BX:=hid bx
   have FX:=hid fx
   have hsz:=bx.lt
   have hb6:=fx.size
   have zr:=b0.size
   obtain ⟨p0,p1,p2,p3,p4,p5,p6,p7,p8,p9,ze,zc,za,zd,zi,zj,zg,zh⟩:=Ze bx.cell
   rw [hA] at zg
   clear hcx hsx bd bx fx
   go_wp2
   refine ackReg _ _ _ _ _ _ _ _ _ _ _ _ _ _ _ _ _ _ _ _ _ _ _ _ _ _ _ _ _ _ _ _ _ _ _ _ _ _ _ _ _ _ _ _ _ _ _ _ _ _ _ _ _ _ _ _ _ w.1.size b off r.an A.ac k o9 ah ch (r.as_ k) wr lo hi w6.1.size r.as_ A' C' hb rfl zg e0 e1 hsz (by omega) (by omega) hfk.out hnn.out HSX.out hkn hb6 BD.out _ ?hQ
   case hQ=>
    intro t u9 ad' cap' b' X hbd hfx hcp
    have HCP:=hid hcp
    clear hcp
    have hown:∀ q,o9.ownBlock=some q→w6.1.size≤q:=fun q e=>by
     obtain ⟨c0',r0,_⟩:=BD.out.row
     exact (r0.lt q e).1
    have HBD:=hid hbd
    have HBB:=hid (b0.trans (hfx.below (B:=w.1.size) (fun q hq e=>by have:=hown q e;omega) zr))
    have HFX:=hid (FX.out.trans (hfx.mono (fun q hq=>(Or.inr (hown q hq):q=w.1.size∨w6.1.size≤q))))
    have HBX:=hid (BX.out.frP hfx (fun e=>by have:=hown _ e;omega))
    have hn9:=hnn.out
    clear p0 p1 p2 p3 p4 p5 p6 p7 p8 p9 ze zc za zd zi zj zg zh e0 e1 hbd hfx BD BX FX HSX hown
    go_wp2
    go_roundw
    case rel=>exact ⟨_,k+1,_,_,_,rfl,by omega,by go_num,HBB.out,HFX.out,HBX.out,HBD.out,fun i hi=>by
     by_cases e:i=k
     ·subst e;rw [Zm];exact HCP.out
     ·rw [Zn _ _ e];exact FL.out i (by omega)⟩
    case measure=>simp [intOf];omega
  ·have hke:k=r.an:=by omega
   obtain ⟨a6,c6,g6,e6,at6,hq6⟩:=bd.done
   have AL:Hid (k≤c6):=hid (by obtain ⟨c9,r9,_⟩:=bd.row;rw [e6] at r9;exact Ov r9)
   subst hke
   subst e6
   have bt:=hid (fun q (h:blkH g6 r.an (fun i=>(r.as_ i).n) hb q)=>(⟨hq6 q h,at6.blt h⟩:w6.1.size≤q∧q<wr.1.size))
   have AT6:=hid at6
   have FX:=hid fx
   have hzz:=fx.size
   have hsz:=bx.lt
   have Q7:=hid (bx.to (JM bx.cell (.slice a6 r.an c6)))
   have z6:w.1.size+1<w6.1.size:=Z5.out.lt
   have Z7:=hid ((Z5.out.frP fx (by omega)).frP (P:=fun q=>q=w.1.size) ((FrP.refl (fun q=>q=w.1.size) wr).setCell (p:=⟨w.1.size,16,none⟩) rfl (.slice a6 r.an c6)) (by omega))
   have hBV:=b0.setCell (p:=⟨w.1.size,16,none⟩) (lrf _) (.slice a6 r.an c6)
   obtain ⟨p0,p1,p2,p3,p4,p5,p6,p7,p8,p9,ze,zc,za,zd,zi,zj,zg,zh⟩:=Ze bx.cell
   have qf:=bx.free
   clear bx bd fx at6 hq6
   go_wp2_with (first|((with_reducible show wpList _ _ _ (⟨some 59,Op.load 38 _,_,_,_,_⟩::_) _ _);(clear p0 p1 p2 p3 p4 p5 p6 p7 p8 p9 ze zc za zd zi zj zg zh qf);refine LD38 [.int .i64 r.num,.int .i64 r.of,.bool r.up,.int .i64 r.sf.pr,.int .i64 r.sf.kn,.slice a0 r.sf.n c0,.int .i64 r.dk.pr,.int .i64 r.dk.kn,.slice a1 r.dk.n c1,.slice a2 r.hn c2,.slice a3 r.wn c3,.bool r.ld,.bool r.tr,.int .i64 r.bal,.slice a4 r.yn c4,.slice a5 r.bn c5,.slice a6 r.an c6,.int .i64 r.hd] Q7.out.cell ?_)|((with_reducible show wpList _ _ _ (⟨none,Op.store 38 _ _,_,_,_,_⟩::_) _ _);refine Zd rfl 38 _ _ rfl (w.1.size+1) [.int .i64 r.num,.int .i64 r.of,.bool r.up,.int .i64 r.sf.pr,.int .i64 r.sf.kn,.slice a0 r.sf.n c0,.int .i64 r.dk.pr,.int .i64 r.dk.kn,.slice a1 r.dk.n c1,.slice a2 r.hn c2,.slice a3 r.wn c3,.bool r.ld,.bool r.tr,.int .i64 r.bal,.slice a4 r.yn c4,.slice a5 r.bn c5,.slice a6 r.an c6,.int .i64 r.hd] rfl rfl Z7.out rfl Tryz.sz38 (by simp [Value.oneCell']) ?_;intro V hr hfv hsv;have HRV:=hid hr;have HFV:=hid hfv;have HSV:=hid hsv;clear hr hfv hsv))
   have hVs:V.1.size=wr.1.size:=by rw [HSV.out,World.size_setCell]
   have fv:FrP (fun q=>q=w.1.size∨q=w.1.size+1) wr V:=((FrP.refl (fun q=>q=w.1.size∨q=w.1.size+1) wr).setCell (p:=⟨w.1.size,16,none⟩) (Or.inl rfl) (.slice a6 r.an c6)).trans (FrP.of_fr HFV.out (fun k h1 h2=>Or.inr (by omega)))
   have F8:FrP (fun q=>q=w.1.size∨(q=w.1.size+1∨w6.1.size≤q)) w6 V:=(FX.out.mono (fun q hq=>by rcases hq with h|h<;>simp [h])).trans (fv.mono (fun q hq=>by rcases hq with h|h<;>simp [h]))
   refine bodyPost_ret (v:=.agg #[.int .i64 r.num,.int .i64 r.of,.bool r.up,.int .i64 r.sf.pr,.int .i64 r.sf.kn,.slice a0 r.sf.n c0,.int .i64 r.dk.pr,.int .i64 r.dk.kn,.slice a1 r.dk.n c1,.slice a2 r.hn c2,.slice a3 r.wn c3,.bool r.ld,.bool r.tr,.int .i64 r.bal,.slice a4 r.yn c4,.slice a5 r.bn c5,.slice a6 r.an c6,.int .i64 r.hd]) (Zv rfl _ _ (w.1.size+1) [.int .i64 r.num,.int .i64 r.of,.bool r.up,.int .i64 r.sf.pr,.int .i64 r.sf.kn,.slice a0 r.sf.n c0,.int .i64 r.dk.pr,.int .i64 r.dk.kn,.slice a1 r.dk.n c1,.slice a2 r.hn c2,.slice a3 r.wn c3,.bool r.ld,.bool r.tr,.int .i64 r.bal,.slice a4 r.yn c4,.slice a5 r.bn c5,.slice a6 r.an c6,.int .i64 r.hd] _ rfl (Holds.range (cs:=[.int .i64 r.num,.int .i64 r.of,.bool r.up,.int .i64 r.sf.pr,.int .i64 r.sf.kn,.slice a0 r.sf.n c0,.int .i64 r.dk.pr,.int .i64 r.dk.kn,.slice a1 r.dk.n c1,.slice a2 r.hn c2,.slice a3 r.wn c3,.bool r.ld,.bool r.tr,.int .i64 r.bal,.slice a4 r.yn c4,.slice a5 r.bn c5,.slice a6 r.an c6,.int .i64 r.hd]) HRV.out.cell) Tryz.underlying38 rfl Tryz.sz38) rfl ⟨⟨⟨a0,a1,a2,a3,a4,a5,a6,c0,c1,c2,c3,c4,c5,c6⟩,g0,g1,g2,w3.1.size+1,w4.1.size+1,g5,g6,A2,C2,h2,A',C',hb⟩,rfl,?_,?_,?_,?_,?_⟩
   ·refine RcAt.ofRows (fun j=>match j with|0=>w.1.size+1+1|1=>w1.1.size|2=>w2.1.size|3=>w3.1.size|4=>w4.1.size|5=>w5.1.size|6=>w6.1.size|_=>wr.1.size) ?_ ?_ ?_ ?_ ?_ ?_ ?_ ?_ ?_ ?_
    ·exact O0_5.out.frP F8 (fun h0=>⟨by have:=L0.out h0;omega,by have:=L0.out h0;omega⟩)
    ·exact O1_5.out.frP F8 (fun h0=>⟨by have:=L1.out h0;omega,by have:=L1.out h0;omega⟩)
    ·exact O2_5.out.fr F8 (fun k hk e=>by have:=L2.out k hk;omega)
    ·exact O3_5.out.frP F8 (fun h0=>⟨by have:=L3.out h0;omega,by have:=L3.out h0;omega⟩)
    ·exact O4_5.out.frP F8 (fun h0=>⟨by have:=L4.out h0;omega,by have:=L4.out h0;omega⟩)
    ·exact O5_5.out.frP F8 (fun h0=>⟨by have:=L5.out h0;omega,by have:=L5.out h0;omega⟩)
    ·exact AT6.out.fr fv (fun k hk e=>by have:=bt.out k hk;omega)
    ·intro j hj
     rcases (show j=0∨j=1∨j=2∨j=3∨j=4∨j=5∨j=6 by omega) with rfl|rfl|rfl|rfl|rfl|rfl|rfl
     ·exact hz1
     ·exact hz2
     ·exact hz3
     ·exact hz4
     ·exact hz5
     ·exact hz6
     ·exact hzz
    ·show wr.1.size≤V.1.size
     omega
    ·intro j k hj hk
     rcases (show j=0∨j=1∨j=2∨j=3∨j=4∨j=5∨j=6 by omega) with rfl|rfl|rfl|rfl|rfl|rfl|rfl
     ·obtain ⟨h0,rfl⟩:=hk;exact L0.out h0
     ·obtain ⟨h0,rfl⟩:=hk;exact L1.out h0
     ·exact L2.out k hk
     ·obtain ⟨h0,rfl⟩:=hk;exact L3.out h0
     ·obtain ⟨h0,rfl⟩:=hk;exact L4.out h0
     ·obtain ⟨h0,rfl⟩:=hk;exact L5.out h0
     ·exact bt.out k hk
   ·exact ⟨WL.out,WZ.out,fun h0=>⟨WA.out h0,Ye (RM_5.out h0) F8 (fun e=>by have h9:w3.1.size+1=w.1.size∨(w3.1.size+1=w.1.size+1∨w6.1.size≤w3.1.size+1):=e;have:=L3.out h0;omega)⟩,SM1.out,CL1.out⟩
   ·exact ⟨CL1.out,CZ1.out,fun h0=>Ye (DM_5.out h0) F8 (fun e=>by have h9:g1=w.1.size∨(g1=w.1.size+1∨w6.1.size≤g1):=e;have:=L1.out h0;omega),ML2.out,MZ2.out,fun h0=>Ye (HR_5.out h0) F8 (fun e=>by have h9:g2=w.1.size∨(g2=w.1.size+1∨w6.1.size≤g2):=e;have:=L2.out g2 (Or.inl ⟨Nat.pos_of_ne_zero h0,rfl⟩);omega)⟩
   ·rintro k ⟨j,hj,hk⟩
    rcases (show j=0∨j=1∨j=2∨j=3∨j=4∨j=5∨j=6 by omega) with rfl|rfl|rfl|rfl|rfl|rfl|rfl
    ·have h9:k=g0:=hk.2;have:=L0.out hk.1;omega
    ·have h9:k=g1:=hk.2;have:=L1.out hk.1;omega
    ·have:=L2.out k hk;omega
    ·have h9:k=w3.1.size+1:=hk.2;omega
    ·have h9:k=w4.1.size+1:=hk.2;omega
    ·have h9:k=g5:=hk.2;have:=L5.out hk.1;omega
    ·have:=bt.out k hk;omega
   ·exact ⟨b0.trans (fv.below (B:=w.1.size) (fun k hk e=>by omega) (by omega)),YL.out,AL.out,FL.out,CL5.out,SM5.out⟩
structure RcG (w:World) (r:Rc) (p:RcP):Prop where
 at_:RcAt w r p
 rm:RmOk w r p
theorem RcG.fr {w w':World} {r:Rc} {p:RcP} {P:Nat→Prop} (h:RcG w r p) (hf:FrP P w w') (hp:∀ k,rbs p r k→¬P k):RcG w' r p:=
 ⟨h.at_.fr hf hp,⟨h.rm.dl,h.rm.d0,fun h0=>Ye (h.rm.dr h0) hf (hp _ ⟨1,by omega,h0,rfl⟩),h.rm.hl,h.rm.h0,fun h0=>Ye (h.rm.hr h0) hf (hp _ ⟨2,by omega,Or.inl ⟨Nat.pos_of_ne_zero h0,rfl⟩⟩)⟩⟩
theorem RcG.grow {w w':World} {r:Rc} {p:RcP} (h:RcG w r p) (hf:Below w.1.size w w'):RcG w' r p:=h.fr (FrP.of_below (P:=fun _=>False) hf) (fun _ _ h=>h)
abbrev msF (r:Rc) (m:Ms):Ms:=⟨m.kind,r.num,m.to,m.bal,m.ix,m.kn,m.text,m.n,m.s⟩
abbrev Yk (r:Rc) (m:Ms):Rc:={ r with hn:=r.hn+1,hs:=updF r.hs r.hn (msF r m) }
def Zo (r:Rc) (m:Ms):Rc:=if (r.hn:Int)<400 then Yk r m else r
abbrev Yn (p:RcP) (n:Nat) (ad':Option Addr) (cap' g':Nat) (adm:Option Addr) (capm hbm:Nat):RcP:={ p with A:={ p.A with ha:=ad',hc:=cap' },g2:=g',HA:=updF p.HA n adm,HC:=updF p.HC n capm,Hb:=updF p.Hb n hbm }
theorem Jx {p:RcP} {r:Rc} {m:Ms} {ad':Option Addr} {cap' g':Nat} {adm:Option Addr} {capm hbm j k:Nat} (hj:j<7) (h2:j≠2):rb (Yn p r.hn ad' cap' g' adm capm hbm) (Yk r m) j k↔rb p r j k:=by
 rcases (show j=0∨j=1∨j=3∨j=4∨j=5∨j=6 by omega) with rfl|rfl|rfl|rfl|rfl|rfl<;>exact Iff.rfl
theorem Oq {p:RcP} {r:Rc} {m:Ms} {ad':Option Addr} {cap' g':Nat} {adm:Option Addr} {capm hbm k:Nat} (h:rb (Yn p r.hn ad' cap' g' adm capm hbm) (Yk r m) 2 k):k=g'∨(∃ i,i<r.hn∧(r.hs i).n≠0∧k=p.Hb i)∨(m.n≠0∧k=hbm):=by
 rcases h with ⟨_,h⟩|⟨i,hi,h0,h⟩
 ·exact Or.inl h
 ·have hi2:i<r.hn+1:=hi
  have h02:(updF r.hs r.hn (msF r m) i).n≠0:=h0
  have h3:k=updF p.Hb r.hn hbm i:=h
  by_cases e:i=r.hn
  ·subst e
   rw [Zm] at h02 h3
   exact Or.inr (Or.inr ⟨h02,h3⟩)
  ·rw [Zn _ _ e] at h02 h3
   exact Or.inr (Or.inl ⟨i,by omega,h02,h3⟩)
theorem NJ {c:Nat→Value} {n:Nat} {x:Nat→Ms} {A:Nat→Option Addr} {C:Nat→Nat} (h:∀ i,i<n→atMs c i (x i) (A i) (C i)):∀ j,j<n*8→(c j).oneCell'=true:=fun j hj=>by
 obtain ⟨a0,a1,a2,a3,a4,a5,a6,a7⟩:=h (j / 8) (by omega)
 have e:j=j / 8*8+j % 8:=by omega
 rcases (show j % 8=0∨j % 8=1∨j % 8=2∨j % 8=3∨j % 8=4∨j % 8=5∨j % 8=6∨j % 8=7 by omega) with q|q|q|q|q|q|q|q<;>rw [q] at e<;>rw [e]
 ·rw [Nat.add_zero,a0];rfl
 ·rw [a1];rfl
 ·rw [a2];rfl
 ·rw [a3];rfl
 ·rw [a4];rfl
 ·rw [a5];rfl
 ·rw [a6];rfl
 ·rw [a7];rfl
theorem FP {c d:Nat→Value} {n i:Nat} {x:Ms} {A:Option Addr} {C:Nat} (h:atMs c i x A C) (hi:i<n):atMs (XD c (n*8) d) i x A C:=by
 obtain ⟨a0,a1,a2,a3,a4,a5,a6,a7⟩:=h
 exact ⟨(if_pos (by omega)).trans a0,(if_pos (by omega)).trans a1,(if_pos (by omega)).trans a2,(if_pos (by omega)).trans a3,(if_pos (by omega)).trans a4,(if_pos (by omega)).trans a5,(if_pos (by omega)).trans a6,(if_pos (by omega)).trans a7⟩
theorem EH {c d:Nat→Value} {n:Nat} {x:Ms} {A:Option Addr} {C:Nat} (h:atMs d 0 x A C):atMs (XD c (n*8) d) n x A C:=by
 obtain ⟨a0,a1,a2,a3,a4,a5,a6,a7⟩:=h
 have e:∀ k,XD c (n*8) d (n*8+k)=d (0*8+k):=fun k=>by unfold XD;rw [if_neg (by omega)];congr 1;omega
 exact ⟨(e 0).trans a0,(e 1).trans a1,(e 2).trans a2,(e 3).trans a3,(e 4).trans a4,(e 5).trans a5,(e 6).trans a6,(e 7).trans a7⟩
theorem KJ (w:World) (r:Rc) (p:RcP) (m:Ms) (adm:Option Addr) (capm hbm b2:Nat) (d:Nat→Value) (h:RcG w r p) (hn:(r.hn:Int)≤1048576) (src:SrcRow w b2 (b2+1) (some ⟨b2,0,none⟩) (1*8) d) (hd:atMs d 0 (msF r m) adm capm) (hm:SlsAt w adm hbm m.n m.s) (hml:m.n≠0→hbm<w.1.size∧¬rbs p r hbm) :
  ∃ ad' cap' g' w',(Builtin.append_ #[35,35] 35 #[.slice p.A.ha r.hn p.A.hc,.slice (some ⟨b2,0,none⟩) 1 1]).run Tryz.prog w=.ok (.slice ad' (r.hn+1) cap') w'∧RcG w' (Yk r m) (Yn p r.hn ad' cap' g' adm capm hbm)∧FrP (fun q=>r.hn≠0∧q=p.g2) w w'∧(∀ k,rbs (Yn p r.hn ad' cap' g' adm capm hbm) (Yk r m) k→rbs p r k∨(m.n≠0∧k=hbm)∨w.1.size≤k):=by
 obtain ⟨c,hrw,hat⟩:∃ c,Rw w p.A.ha p.g2 r.hn p.A.hc 8 c∧∀ i,i<r.hn→atMs c i (r.hs i) (p.HA i) (p.HC i):=by
  by_cases h0:r.hn=0
  ·have e:=h.rm.h0 h0
   refine ⟨fun _=>.int .i64 0,?_,fun i hi=>by omega⟩
   rw [h0,e]
   exact Rw.none _ _ _ _ _
  ·obtain ⟨c,hr,ha⟩:=h.at_.o2.row (Nat.pos_of_ne_zero h0)
   exact ⟨c,⟨fun _=>h.at_.o2.addr (Nat.pos_of_ne_zero h0),h.rm.hl,fun _=>h.rm.hr h0,hr.cell⟩,ha⟩
 obtain ⟨ad',cap',g',w',hrun,hrw',hf,hg⟩:=KA (P:=Tryz.prog) w 35 35 52 8 88 _ Tryz.underlying35 Tryz.info52 (by omega) rfl p.A.ha p.g2 r.hn p.A.hc c hrw (NJ hat) b2 (b2+1) (some ⟨b2,0,none⟩) 1 1 d src (by omega) (by omega) (by omega)
 have hc0:0<p.A.hc→r.hn≠0:=fun h1 e=>by have:=h.rm.h0 e;omega
 have hf':FrP (fun q=>r.hn≠0∧q=p.g2) w w':=hf.mono (fun q hq=>⟨hc0 hq.1,hq.2⟩)
 have hg':(r.hn≠0∧g'=p.g2)∨w.1.size≤g':=by rcases hg with hg|hg;exact Or.inl ⟨hc0 hg.1,hg.2⟩;exact Or.inr hg
 have g2in:r.hn≠0→rb p r 2 p.g2:=fun h0=>Or.inl ⟨Nat.pos_of_ne_zero h0,rfl⟩
 have oth:∀ j k,j<7→j≠2→rb p r j k→¬(r.hn≠0∧k=p.g2):=fun j k hj h2 hk e=>by
  obtain ⟨e0,rfl⟩:=e
  exact h2 (h.at_.ap j 2 _ hj (by omega) hk (g2in e0))
 have hbi:∀ i,i<r.hn→(r.hs i).n≠0→rb p r 2 (p.Hb i):=fun i hi h0=>Or.inr ⟨i,hi,h0,rfl⟩
 have hbg:∀ i,i<r.hn→(r.hs i).n≠0→p.Hb i≠p.g2:=fun i hi h0=>h.at_.o2.ap.1 i hi h0
 have hmg:m.n≠0→¬(r.hn≠0∧hbm=p.g2):=fun h0 e=>(hml h0).2 ⟨2,by omega,by rw [e.2];exact g2in e.1⟩
 have hblk:∀ k,rb (Yn p r.hn ad' cap' g' adm capm hbm) (Yk r m) 2 k→rb p r 2 k∨(m.n≠0∧k=hbm)∨w.1.size≤k:=fun k hk=>by
  rcases Oq hk with rfl|⟨i,hi,h0,rfl⟩|h1
  ·rcases hg' with ⟨h0,rfl⟩|h1
   ·exact Or.inl (g2in h0)
   ·exact Or.inr (Or.inr h1)
  ·exact Or.inl (hbi i hi h0)
  ·exact Or.inr (Or.inl h1)
 have hgl:g'<w'.1.size:=(hrw'.rowF (by omega)).2.lt
 refine ⟨ad',cap',g',w',hrun,⟨⟨?_,?_,?_,?_,?_,?_,?_,?_,?_⟩,⟨h.rm.dl,h.rm.d0,fun h0=>Ye (h.rm.dr h0) hf' (oth 1 _ (by omega) (by omega) ⟨h0,rfl⟩),hrw'.le,fun e=>absurd e (Nat.succ_ne_zero _),fun _=>hrw'.room (ltl (Nat.succ_pos _) hrw'.le)⟩⟩,hf',?_⟩
 ·exact h.at_.o0.frP hf' (fun h0=>⟨oth 0 _ (by omega) (by omega) ⟨h0,rfl⟩,Zr h.at_ (j:=0) (by omega) ⟨h0,rfl⟩⟩)
 ·exact h.at_.o1.frP hf' (fun h0=>⟨oth 1 _ (by omega) (by omega) ⟨h0,rfl⟩,Zr h.at_ (j:=1) (by omega) ⟨h0,rfl⟩⟩)
 ·refine ⟨fun _=>(hrw'.rowF (by omega)).1,fun _=>⟨_,(hrw'.rowF (by omega)).2,fun i hi=>?_⟩,fun i hi=>?_,fun i hi h0=>?_,⟨fun i hi h0=>?_,fun i j hi hj h0 h1 e=>?_⟩⟩
  ·have hi2:i<r.hn+1:=hi
   by_cases e:i=r.hn
   ·subst e
    show atMs _ _ (updF r.hs r.hn (msF r m) r.hn) (updF p.HA r.hn adm r.hn) (updF p.HC r.hn capm r.hn)
    rw [Zm,Zm,Zm]
    exact EH hd
   ·show atMs _ _ (updF r.hs r.hn (msF r m) i) (updF p.HA r.hn adm i) (updF p.HC r.hn capm i)
    rw [Zn _ _ e,Zn _ _ e,Zn _ _ e]
    exact FP (hat i (by omega)) (by omega)
  ·have hi2:i<r.hn+1:=hi
   show SlsAt w' (updF p.HA r.hn adm i) (updF p.Hb r.hn hbm i) (updF r.hs r.hn (msF r m) i).n (updF r.hs r.hn (msF r m) i).s
   by_cases e:i=r.hn
   ·subst e
    rw [Zm,Zm,Zm]
    exact hm.frP hf' (fun h0=>⟨hmg h0,(hml h0).1⟩)
   ·rw [Zn _ _ e,Zn _ _ e,Zn _ _ e]
    exact (h.at_.o2.hold i (by omega)).frP hf' (fun h0=>⟨fun e2=>hbg i (by omega) h0 e2.2,h.at_.o2.hlt i (by omega) h0⟩)
  ·have hi2:i<r.hn+1:=hi
   show updF p.Hb r.hn hbm i<_
   have h02:(updF r.hs r.hn (msF r m) i).n≠0:=h0
   by_cases e:i=r.hn
   ·subst e
    rw [Zm] at h02 ⊢
    exact ltl (hml h02).1 hf'.size
   ·rw [Zn _ _ e] at h02 ⊢
    exact ltl (h.at_.o2.hlt i (by omega) h02) hf'.size
  ·have hi2:i<r.hn+1:=hi
   show updF p.Hb r.hn hbm i≠g'
   have h02:(updF r.hs r.hn (msF r m) i).n≠0:=h0
   by_cases e:i=r.hn
   ·subst e
    rw [Zm] at h02 ⊢
    intro e2
    subst e2
    rcases hg' with hg1|hg1
    ·exact hmg h02 hg1
    ·have:=(hml h02).1;omega
   ·rw [Zn _ _ e] at h02 ⊢
    intro e2
    rcases hg' with hg1|hg1
    ·exact hbg i (by omega) h02 (e2.trans hg1.2)
    ·have:=h.at_.o2.hlt i (by omega) h02;omega
  ·have hi2:i<r.hn+1:=hi
   have hj2:j<r.hn+1:=hj
   have h02:(updF r.hs r.hn (msF r m) i).n≠0:=h0
   have h12:(updF r.hs r.hn (msF r m) j).n≠0:=h1
   have e2:updF p.Hb r.hn hbm i=updF p.Hb r.hn hbm j:=e
   by_cases ei:i=r.hn
   ·by_cases ej:j=r.hn
    ·omega
    ·subst ei
     rw [Zm] at h02
     rw [Zn _ _ ej] at h12
     rw [Zm,Zn _ _ ej] at e2
     exact absurd ⟨2,by omega,by rw [e2];exact hbi j (by omega) h12⟩ (hml h02).2
   ·by_cases ej:j=r.hn
    ·subst ej
     rw [Zm] at h12
     rw [Zn _ _ ei] at h02
     rw [Zm,Zn _ _ ei] at e2
     exact absurd ⟨2,by omega,by rw [←e2];exact hbi i (by omega) h02⟩ (hml h12).2
    ·rw [Zn _ _ ei] at h02
     rw [Zn _ _ ej] at h12
     rw [Zn _ _ ei,Zn _ _ ej] at e2
     exact h.at_.o2.ap.2 i j (by omega) (by omega) h02 h12 e2
 ·exact h.at_.o3.frP hf' (fun h0=>⟨oth 3 _ (by omega) (by omega) ⟨h0,rfl⟩,Zr h.at_ (j:=3) (by omega) ⟨h0,rfl⟩⟩)
 ·exact h.at_.o4.frP hf' (fun h0=>⟨oth 4 _ (by omega) (by omega) ⟨h0,rfl⟩,Zr h.at_ (j:=4) (by omega) ⟨h0,rfl⟩⟩)
 ·exact h.at_.o5.frP hf' (fun h0=>⟨oth 5 _ (by omega) (by omega) ⟨h0,rfl⟩,Zr h.at_ (j:=5) (by omega) ⟨h0,rfl⟩⟩)
 ·exact h.at_.o6.fr hf' (fun k hk=>oth 6 k (by omega) (by omega) hk)
 ·rintro k ⟨j,hj,hk⟩
  by_cases h2:j=2
  ·subst h2
   rcases Oq hk with rfl|⟨i,hi,h0,rfl⟩|⟨h0,rfl⟩
   ·exact hgl
   ·exact ltl (h.at_.o2.hlt i hi h0) hf'.size
   ·exact ltl (hml h0).1 hf'.size
  ·exact ltl (Zr h.at_ hj ((Jx hj h2).1 hk)) hf'.size
 ·intro i j k hi hj h1 h2
  have key:∀ j k,j<7→j≠2→rb p r j k→¬rb (Yn p r.hn ad' cap' g' adm capm hbm) (Yk r m) 2 k:=fun j k hj hj2 hk e=>by
   rcases hblk k e with h3|⟨h0,rfl⟩|h3
   ·exact hj2 (h.at_.ap j 2 k hj (by omega) hk h3)
   ·exact (hml h0).2 ⟨j,hj,hk⟩
   ·have:=Zr h.at_ hj hk;omega
  by_cases ei:i=2
  ·by_cases ej:j=2
   ·omega
   ·subst ei
    exact absurd h1 (key j k hj ej ((Jx hj ej).1 h2))
  ·by_cases ej:j=2
   ·subst ej
    exact absurd h2 (key i k hi ei ((Jx hi ei).1 h1))
   ·exact h.at_.ap i j k hi hj ((Jx hi ei).1 h1) ((Jx hj ej).1 h2)
 ·rintro k ⟨j,hj,hk⟩
  by_cases h2:j=2
  ·subst h2
   rcases hblk k hk with h3|h3
   ·exact Or.inl ⟨2,by omega,h3⟩
   ·exact Or.inr h3
  ·exact Or.inl ⟨j,hj,(Jx hj h2).1 hk⟩
theorem FrP.trans2 {P Q:Nat→Prop} {w w1 w':World} (h:FrP P w w1) (h2:FrP Q w1 w') (f:∀ k,k<w.1.size→Q k→P k):FrP P w w':=⟨h2.os.trans h.os,h2.tape.trans h.tape,h2.output.trans h.output,ltr h.size h2.size,fun k hk ho=>(h2.block k (ltl hk h.size) (fun e=>ho (f k hk e))).trans (h.block k hk ho)⟩
abbrev msL (m:Ms) (ad:Option Addr) (cap:Nat):List Value:=[.int .i64 m.kind,.int .i64 m.from_,.int .i64 m.to,.int .i64 m.bal,.int .i64 m.ix,.int .i64 m.kn,.string m.text,.slice ad m.n cap]
def msD (m:Ms) (ad:Option Addr) (cap j:Nat):Value:=(msL m ad cap).getD j undef
theorem Iw (m:Ms) (ad:Option Addr) (cap:Nat):atMs (msD m ad cap) 0 m ad cap:=⟨rfl,rfl,rfl,rfl,rfl,rfl,rfl,rfl⟩
theorem Pk (w:World) (m:Ms) (ad:Option Addr) (cap:Nat):SrcRow (w.alloc (.cells (msL m ad cap).toArray 52)) w.1.size (w.1.size+1) (some ⟨w.1.size,0,none⟩) (1*8) (msD m ad cap):=by
 refine ⟨fun j hj=>⟨w.1.size,0,rfl,lrf _,Nat.lt_succ_self _,?_⟩,NJ (x:=fun _=>m) (A:=fun _=>ad) (C:=fun _=>cap) (n:=1) (fun i hi=>by
  obtain rfl:i=0:=by omega
  exact Iw m ad cap)⟩
 rw [Nat.zero_add]
 have h:=Zt w (msL m ad cap).toArray 52 j
 rw [h]
 have hj2:j<8:=hj
 match j,hj2 with
 | 0,_=>rfl
 | 1,_=>rfl
 | 2,_=>rfl
 | 3,_=>rfl
 | 4,_=>rfl
 | 5,_=>rfl
 | 6,_=>rfl
 | 7,_=>rfl
theorem Bx.new3 (w:World) (c d e:Array Value) (t t2 t3:TypeId):Bx (((w.alloc (.cells c t)).alloc (.cells d t2)).alloc (.cells e t3)) w.1.size c∧Bx (((w.alloc (.cells c t)).alloc (.cells d t2)).alloc (.cells e t3)) (w.1.size+1) d∧Bx (((w.alloc (.cells c t)).alloc (.cells d t2)).alloc (.cells e t3)) (w.1.size+1+1) e:=
 ⟨(Bx.new2 w c d t t2).1.below (Zb _ _) (by simp;omega),(Bx.new2 w c d t t2).2.below (Zb _ _) (by simp),by have:=Bx.new ((w.alloc (.cells c t)).alloc (.cells d t2)) e t3;simpa using this⟩
set_option maxRecDepth 100000 in
theorem JR (r:Rc) (p:RcP) (m:Ms) (adm:Option Addr) (capm hbm:Nat) (w:World) (hg:RcG w r p) (hm:SlsAt w adm hbm m.n m.s) (hml:m.n≠0→hbm<w.1.size∧¬rbs p r hbm) :
  Calls Tryz.prog 40 #[rcV r p.A,msV m adm capm] w fun e w'=>∃ p',e=.returned (rcV (Zo r m) p'.A)∧RcG w' (Zo r m) p'∧FrP (fun q=>r.hn≠0∧q=p.g2) w w'∧(∀ k,rbs p' (Zo r m) k→rbs p r k∨(m.n≠0∧k=hbm)∨w.1.size≤k):=by
 have HG:=hid hg
 have HMS:=hid hm
 have HML:=hid hml
 have HLT:=hid hg.at_.lt
 clear hg hm hml
 have mark:Nat:=0
 by_cases hn:(r.hn:Int)<400
 ·have OUT:=hid (show Zo r m=Yk r m from if_pos hn)
  generalize Zo r m=O at *
  have mark2:Nat:=0
  have mark3:Nat:=0
  go_enter Tryz.func40,Tryz.ntmps40
  go_wp2_with (first|((with_reducible show wpList _ _ _ (⟨some 5,_,_,_,_,_⟩::_) _ _);clear mark;obtain ⟨x1,x2,x3⟩:=Bx.new3 w (rcC r p.A) (msL m adm capm).toArray (rcL 0 0 false).toArray 38 52 38;have Q0:=hid x1;have M0:=hid x2;have Z0:=hid x3;clear x1 x2 x3;have hB0:Below w.1.size w (((w.alloc (.cells (rcC r p.A) 38)).alloc (.cells (msL m adm capm).toArray 52)).alloc (.cells (rcL 0 0 false).toArray 38)):=((Zb _ _).alloc (by simp) _).alloc (by simp;omega) _;(generalize ((w.alloc (.cells (rcC r p.A) 38)).alloc (.cells (msL m adm capm).toArray 52)).alloc (.cells (rcL 0 0 false).toArray 38)=W at *);obtain ⟨q0,q1,q2,q3,q4,q5,q6,q7,q8,q9,q10,q11,q12,q13,q14,q15,q16,q17⟩:=Ze Q0.out.cell;have qf:=Q0.out.free;have hz3:w.1.size+1+1<W.1.size:=Z0.out.lt;have m0:W.cell? ⟨w.1.size+1,0,none⟩=some (.int .i64 m.kind):=M0.out.cell 0;have m1:W.cell? ⟨w.1.size+1,1,none⟩=some (.int .i64 m.from_):=M0.out.cell 1;have m2:W.cell? ⟨w.1.size+1,2,none⟩=some (.int .i64 m.to):=M0.out.cell 2;have m3:W.cell? ⟨w.1.size+1,3,none⟩=some (.int .i64 m.bal):=M0.out.cell 3;have m4:W.cell? ⟨w.1.size+1,4,none⟩=some (.int .i64 m.ix):=M0.out.cell 4;have m5:W.cell? ⟨w.1.size+1,5,none⟩=some (.int .i64 m.kn):=M0.out.cell 5;have m6:W.cell? ⟨w.1.size+1,6,none⟩=some (.string m.text):=M0.out.cell 6;have m7:W.cell? ⟨w.1.size+1,7,none⟩=some (.slice adm m.n capm):=M0.out.cell 7;have mf:=M0.out.free)|((with_reducible show wpList _ _ _ (⟨some 16,_,_,_,_,_⟩::_) _ _);clear mark2;go_loud (have f1:FrP (fun q=>q=w.1.size+1) W (W.setCell ⟨w.1.size+1,1,none⟩ (.int .i64 r.num)):=(FrP.refl (fun q=>q=w.1.size+1) W).setCell (p:=⟨w.1.size+1,1,none⟩) rfl _;have f2:FrP (fun q=>q=w.1.size+1) W ((W.setCell ⟨w.1.size+1,1,none⟩ (.int .i64 r.num)).alloc (.cells (msL (msF r m) adm capm).toArray 52)):=f1.trans (FrP.of_below (Zb _ _));have GX:RcG ((W.setCell ⟨w.1.size+1,1,none⟩ (.int .i64 r.num)).alloc (.cells (msL (msF r m) adm capm).toArray 52)) r p:=(HG.out.grow hB0).fr f2 (fun k hk e=>by have:=HLT.out k hk;omega);have MX:SlsAt ((W.setCell ⟨w.1.size+1,1,none⟩ (.int .i64 r.num)).alloc (.cells (msL (msF r m) adm capm).toArray 52)) adm hbm m.n m.s:=(HMS.out.grow hB0).frP f2 (fun h0=>⟨by have:=(HML.out h0).1;omega,ltl (HML.out h0).1 hB0.size⟩);have zX:W.1.size≤((W.setCell ⟨w.1.size+1,1,none⟩ (.int .i64 r.num)).alloc (.cells (msL (msF r m) adm capm).toArray 52)).1.size:=f2.size;have SRC:=Pk (W.setCell ⟨w.1.size+1,1,none⟩ (.int .i64 r.num)) (msF r m) adm capm;(rw [World.size_setCell] at SRC);obtain ⟨ad',cap',g',w4,hrun,hG4,hF4,hK4⟩:=KJ ((W.setCell ⟨w.1.size+1,1,none⟩ (.int .i64 r.num)).alloc (.cells (msL (msF r m) adm capm).toArray 52)) r p m adm capm hbm W.1.size (msD (msF r m) adm capm) GX (by omega) SRC (Iw _ _ _) MX (fun h0=>⟨ltl (ltl (HML.out h0).1 hB0.size) zX,(HML.out h0).2⟩);refine Zq rfl _ _ 35 35 rfl _ _ _ _ rfl rfl hrun ?_;have f4:FrP (fun q=>q=w.1.size+1∨(r.hn≠0∧q=p.g2)) W w4:=(f2.mono (fun q hq=>Or.inl hq)).trans (hF4.mono (fun q hq=>Or.inr hq));have g2lt:r.hn≠0→p.g2<w.1.size:=(fun h0=>HLT.out _ ⟨2,by omega,Or.inl ⟨Nat.pos_of_ne_zero h0,rfl⟩⟩);have Q4:=hid (Q0.out.frP f4 (fun e=>by rcases e with e|e;omega;have:=g2lt e.1;omega));have Z4:=hid (Z0.out.frP f4 (fun e=>by rcases e with e|e;omega;have:=g2lt e.1;omega));have G4:=hid hG4;have K4:=hid hK4;have F4:=hid f4;have zW:=hB0.size;have z4:=f4.size;clear q0 q1 q2 q3 q4 q5 q6 q7 q8 q9 q10 q11 q12 q13 q14 q15 q16 q17 m0 m1 m2 m3 m4 m5 m6 m7 qf mf f1 f2 GX MX SRC hrun hG4 hF4 hK4 f4 Q0 Z0 M0;obtain ⟨q0,q1,q2,q3,q4,q5,q6,q7,q8,q9,q10,q11,q12,q13,q14,q15,q16,q17⟩:=Ze Q4.out.cell;have qf:=Q4.out.free;have qlt:=Q4.out.lt))|((with_reducible show wpList _ _ _ (⟨some 18,Op.load 38 _,_,_,_,_⟩::_) _ _);clear mark3;have B6:Hid (Bx (w4.setCell ⟨w.1.size,9,none⟩ (.slice ad' (r.hn+1) cap')) w.1.size (rcC (Yk r m) (Yn p r.hn ad' cap' g' adm capm hbm).A)):=Q4.out.to (hset9 Q4.out.cell (.slice ad' (r.hn+1) cap'));have f5:=hid ((FrP.refl (fun q=>q=w.1.size) w4).setCell (p:=⟨w.1.size,9,none⟩) rfl (.slice ad' (r.hn+1) cap'));(generalize w4.setCell ⟨w.1.size,9,none⟩ (.slice ad' (r.hn+1) cap')=w5 at *);have Z5:=hid (Z4.out.frP f5.out (by omega));clear q0 q1 q2 q3 q4 q5 q6 q7 q8 q9 q10 q11 q12 q13 q14 q15 q16 q17 qf qlt Q4 Z4)|((with_reducible show wpList _ _ _ (⟨some 18,Op.load 38 _,_,_,_,_⟩::_) _ _);refine LD38 (rcC (Yk r m) (Yn p r.hn ad' cap' g' adm capm hbm).A).toList B6.out.cell ?_)|((with_reducible show wpList _ _ _ (⟨none,Op.store 38 _ _,_,_,_,_⟩::_) _ _);refine Zd rfl 38 _ _ rfl (w.1.size+1+1) (rcC (Yk r m) (Yn p r.hn ad' cap' g' adm capm hbm).A).toList rfl rfl Z5.out rfl Tryz.sz38 (by simp [Value.oneCell']) ?_;intro V2 hr hfr hsv;have HBV2:=hid hr;have HFV2:=hid hfr;have HSV2:=hid hsv;clear hr hfr hsv))
  have f6:FrP (fun q=>q=w.1.size+1+1) w5 V2:=FrP.of_fr HFV2.out (fun k h1 h2=>by omega)
  have z5:=f5.out.size
  refine RZ (rcC (Yk r m) (Yn p r.hn ad' cap' g' adm capm hbm).A).toList HBV2.out.cell ?_
  rw [OUT.out]
  have hblk:∀ k,rbs (Yn p r.hn ad' cap' g' adm capm hbm) (Yk r m) k→k≠w.1.size∧k≠w.1.size+1+1:=fun k hk=>by
   rcases K4.out k hk with h|⟨h,rfl⟩|h
   ·have:=HLT.out k h;omega
   ·have:=(HML.out h).1;omega
   ·omega
  refine ⟨(Yn p r.hn ad' cap' g' adm capm hbm),rfl,(G4.out.fr f5.out (fun k hk=>(hblk k hk).1)).fr f6 (fun k hk=>(hblk k hk).2),?_,fun k hk=>?_⟩
  ·exact (FrP.of_below (P:=fun q=>r.hn≠0∧q=p.g2) hB0).trans2 ((F4.out.mono (fun q hq=>(Or.inl hq:(q=w.1.size+1∨(r.hn≠0∧q=p.g2))∨(q=w.1.size∨q=w.1.size+1+1)))).trans ((f5.out.mono (fun q hq=>Or.inr (Or.inl hq))).trans (f6.mono (fun q hq=>Or.inr (Or.inr hq))))) (fun k hk e=>by
    rcases e with (e|e)|(e|e)
    ·omega
    ·exact e
    ·omega
    ·omega)
  ·rcases K4.out k hk with h|h|h
   ·exact Or.inl h
   ·exact Or.inr (Or.inl h)
   ·exact Or.inr (Or.inr (by omega))
 ·have OUT:=hid (show Zo r m=r from if_neg hn)
  generalize Zo r m=O at *
  have mark3:Nat:=0
  go_enter Tryz.func40,Tryz.ntmps40
  go_wp2_with (first|((with_reducible show wpList _ _ _ (⟨some 5,_,_,_,_,_⟩::_) _ _);clear mark;obtain ⟨x1,x2,x3⟩:=Bx.new3 w (rcC r p.A) (msL m adm capm).toArray (rcL 0 0 false).toArray 38 52 38;have Q0:=hid x1;have M0:=hid x2;have Z0:=hid x3;clear x1 x2 x3;have hB0:Below w.1.size w (((w.alloc (.cells (rcC r p.A) 38)).alloc (.cells (msL m adm capm).toArray 52)).alloc (.cells (rcL 0 0 false).toArray 38)):=((Zb _ _).alloc (by simp) _).alloc (by simp;omega) _;(generalize ((w.alloc (.cells (rcC r p.A) 38)).alloc (.cells (msL m adm capm).toArray 52)).alloc (.cells (rcL 0 0 false).toArray 38)=W at *);obtain ⟨q0,q1,q2,q3,q4,q5,q6,q7,q8,q9,q10,q11,q12,q13,q14,q15,q16,q17⟩:=Ze Q0.out.cell;have qf:=Q0.out.free;have hz3:w.1.size+1+1<W.1.size:=Z0.out.lt;have m0:W.cell? ⟨w.1.size+1,0,none⟩=some (.int .i64 m.kind):=M0.out.cell 0;have m1:W.cell? ⟨w.1.size+1,1,none⟩=some (.int .i64 m.from_):=M0.out.cell 1;have m2:W.cell? ⟨w.1.size+1,2,none⟩=some (.int .i64 m.to):=M0.out.cell 2;have m3:W.cell? ⟨w.1.size+1,3,none⟩=some (.int .i64 m.bal):=M0.out.cell 3;have m4:W.cell? ⟨w.1.size+1,4,none⟩=some (.int .i64 m.ix):=M0.out.cell 4;have m5:W.cell? ⟨w.1.size+1,5,none⟩=some (.int .i64 m.kn):=M0.out.cell 5;have m6:W.cell? ⟨w.1.size+1,6,none⟩=some (.string m.text):=M0.out.cell 6;have m7:W.cell? ⟨w.1.size+1,7,none⟩=some (.slice adm m.n capm):=M0.out.cell 7;have mf:=M0.out.free)|((with_reducible show wpList _ _ _ (⟨some 18,Op.load 38 _,_,_,_,_⟩::_) _ _);clear mark3;have f5:=hid ((FrP.refl (fun q=>q=w.1.size+1) W).setCell (p:=⟨w.1.size+1,1,none⟩) rfl (.int .i64 r.num));(generalize W.setCell ⟨w.1.size+1,1,none⟩ (.int .i64 r.num)=w5 at *);have Q5:=hid (Q0.out.frP f5.out (by omega));have Z5:=hid (Z0.out.frP f5.out (by omega));clear q0 q1 q2 q3 q4 q5 q6 q7 q8 q9 q10 q11 q12 q13 q14 q15 q16 q17 m0 m1 m2 m3 m4 m5 m6 m7 qf mf Q0 Z0 M0)|((with_reducible show wpList _ _ _ (⟨some 18,Op.load 38 _,_,_,_,_⟩::_) _ _);refine LD38 (rcC r p.A).toList Q5.out.cell ?_)|((with_reducible show wpList _ _ _ (⟨none,Op.store 38 _ _,_,_,_,_⟩::_) _ _);refine Zd rfl 38 _ _ rfl (w.1.size+1+1) (rcC r p.A).toList rfl rfl Z5.out rfl Tryz.sz38 (by simp [Value.oneCell']) ?_;intro V2 hr hfr hsv;have HBV2:=hid hr;have HFV2:=hid hfr;have HSV2:=hid hsv;clear hr hfr hsv))
  have f6:FrP (fun q=>q=w.1.size+1+1) w5 V2:=FrP.of_fr HFV2.out (fun k h1 h2=>by omega)
  have zW:=hB0.size
  refine RZ (rcC r p.A).toList HBV2.out.cell ?_
  rw [OUT.out]
  have hall:FrP (fun q=>q=w.1.size+1∨q=w.1.size+1+1) W V2:=(f5.out.mono (fun q hq=>Or.inl hq)).trans (f6.mono (fun q hq=>Or.inr hq))
  exact ⟨p,rfl,(HG.out.grow hB0).fr hall (fun k hk e=>by have:=HLT.out k hk;omega),(FrP.of_below (P:=fun q=>r.hn≠0∧q=p.g2) hB0).trans2 hall (fun k hk e=>by omega),fun k hk=>Or.inl hk⟩
end Go.Proofs.YtokkbdlofbdljaaGreat
