import Derived.Test.YtokkbdlofbdljaaGreatGs
import Derived.Test.YtokkbdlofbdljaaGreatSb
namespace Go.Proofs.YtokkbdlofbdljaaGreat
open Go.RowKit
set_option maxHeartbeats 8000000
set_option maxRecDepth 100000 in
theorem FC (r:Rc) (p:RcP) (m:Ms) (adm:Option Addr) (capm hbm B q:Nat) (w:World) (hbx:Bx w B (rcC r p.A)) (hq:q<w.1.size) (hqc:w.cell? ⟨q,0,none⟩=some (.pointer (some ⟨B,0,none⟩))) (hg:RcG w r p) (hB:∀ k,rbs p r k→k≠B∧k≠q) (hm:SlsAt w adm hbm m.n m.s) (hml:m.n≠0→hbm<w.1.size∧¬rbs p r hbm∧hbm≠B) :
  Calls Tryz.prog 150 #[msV m adm capm,.pointer (some ⟨q,0,none⟩)] w fun e w'=>e=.returned (.tuple #[])∧∃ p',Bx w' B (rcC (Zo r m) p'.A)∧RcG w' (Zo r m) p'∧FrP (fun k=>k=B∨(r.hn≠0∧k=p.g2)) w w'∧(∀ k,rbs p' (Zo r m) k→rbs p r k∨(m.n≠0∧k=hbm)∨w.1.size≤k)∧p'.A.wa=p.A.wa∧p'.A.wc=p.A.wc:=by
 have HBX:=hid hbx
 have HBL:=hbx.lt
 have HQ1:=hq
 have HQC:=hid hqc
 have HG:=hid hg
 have HLT:=hid hg.at_.lt
 have HB:=hid hB
 have HMS:=hid hm
 have HML:=hid hml
 clear hbx hq hqc hg hB hm hml
 have mark:Nat:=0
 by_cases hn:(r.hn:Int)<400
 ·have OUT:=hid (show Zo r m=Yk r m from if_pos hn)
  generalize Zo r m=O at *
  go_enter Tryz.func150,Tryz.ntmps150
  go_wp2_with (first|((with_reducible show wpList _ _ _ (⟨some 3,_,_,_,_,_⟩::_) _ _);clear mark;go_must (have M0:=hid (Bx.new w (msL m adm capm).toArray 52);have hB0:Below w.1.size w (w.alloc (.cells (msL m adm capm).toArray 52)):=Zb _ _;have zS:w.1.size<(w.alloc (.cells (msL m adm capm).toArray 52)).1.size:=(by simp);(generalize (w.alloc (.cells (msL m adm capm).toArray 52))=W at *);have BX:=hid (HBX.out.below hB0 HBL);obtain ⟨q0,q1,q2,q3,q4,q5,q6,q7,q8,q9,q10,q11,q12,q13,q14,q15,q16,q17⟩:=Ze BX.out.cell;clear q1 q2 q3 q4 q5 q6 q7 q8 q10 q11 q12 q13 q14 q15 q16 q17;have qc:=(hB0.cell (p:=⟨q,0,none⟩) HQ1).trans HQC.out;have m1:W.cell? ⟨w.1.size,1,none⟩=some (.int .i64 m.from_):=M0.out.cell 1;have mf:=M0.out.free)))
  have f1:FrP (fun k=>k=w.1.size) W (W.setCell ⟨w.1.size,1,none⟩ (.int .i64 r.num)):=(FrP.refl (fun k=>k=w.1.size) W).setCell (p:=⟨w.1.size,1,none⟩) rfl _
  have M1:Bx (W.setCell ⟨w.1.size,1,none⟩ (.int .i64 r.num)) w.1.size (msL (msF r m) adm capm).toArray:=M0.out.to (Holds.set (i:=1) M0.out.cell (by simp) (.int .i64 r.num))
  have zW:=hB0.size
  have ltB:∀ k,rbs p r k→k<w.1.size:=HLT.out
  refine FE _ _ _ _ _ _ _ _ _ _ _ _ _ _ _ _ _ _ _ _ _ _ q w.1.size B r p m adm capm hbm (W.setCell ⟨w.1.size,1,none⟩ (.int .i64 r.num)) (BX.out.frP f1 (by omega)) M1 (by rw [World.size_setCell];omega) ((f1.cell (p:=⟨q,0,none⟩) (by show q<_;omega) (by show ¬q=_;omega)).trans qc) ((HG.out.grow hB0).fr f1 (fun k hk e=>by have:=ltB k hk;omega)) hn (fun k hk=>⟨(HB.out k hk).1,(HB.out k hk).2,by have:=ltB k hk;omega⟩) ((HMS.out.grow hB0).frP f1 (fun h0=>⟨by have:=(HML.out h0).1;omega,by have:=(HML.out h0).1;omega⟩)) (fun h0=>⟨by rw [World.size_setCell];have:=(HML.out h0).1;omega,(HML.out h0).2.1⟩) _ ?_
  intro t ad' cap' g' Y kG kB kF
  have kB2:∀ k,rbs (Yn p r.hn ad' cap' g' adm capm hbm) (Yk r m) k→rbs p r k∨(m.n≠0∧k=hbm)∨w.1.size<k:=fun k hk=>by
   rcases kB k hk with h|h|h
   ·exact Or.inl h
   ·exact Or.inr (Or.inl h)
   ·rw [World.size_setCell] at h;exact Or.inr (Or.inr (by omega))
  have nB:¬(r.hn≠0∧B=p.g2):=fun e=>(HB.out _ ⟨2,by omega,Or.inl ⟨Nat.pos_of_ne_zero e.1,rfl⟩⟩).1 e.2.symm
  have BY:Bx Y B (rcC r p.A):=(BX.out.frP f1 (by omega)).frP kF nB
  have fB:=(FrP.refl (fun k=>k=B) Y).setCell (p:=⟨B,9,none⟩) rfl (.slice ad' (r.hn+1) cap')
  have HR1:Hid (Bx (Y.setCell ⟨B,9,none⟩ (.slice ad' (r.hn+1) cap')) B (rcC (Yk r m) (Yn p r.hn ad' cap' g' adm capm hbm).A)):=BY.to (hset9 BY.cell _)
  have HR2:=hid (kG.fr fB (fun k hk e=>by
   rcases kB2 k hk with h|h|h
   ·exact (HB.out k h).1 e
   ·exact (HML.out h.1).2.2 (h.2.symm.trans e)
   ·omega))
  have HR3:Hid (FrP (fun k=>k=B∨(r.hn≠0∧k=p.g2)) w (Y.setCell ⟨B,9,none⟩ (.slice ad' (r.hn+1) cap'))):=(FrP.of_below (P:=fun k=>k=B∨(r.hn≠0∧k=p.g2)) hB0).trans2 ((f1.mono (fun k hk=>(Or.inl hk:k=w.1.size∨(k=B∨(r.hn≠0∧k=p.g2))))).trans ((kF.mono (fun k hk=>Or.inr (Or.inr hk))).trans (fB.mono (fun k hk=>Or.inr (Or.inl hk))))) (fun k hk e=>by
    rcases e with e|e
    ·omega
    ·exact e)
  have HR4:=hid kB2
  generalize Y.setCell ⟨B,9,none⟩ (.slice ad' (r.hn+1) cap')=V at *
  clear kB kB2 kG kF BY fB f1 M1
  refine bodyPost_end (results_none rfl _ _ _) rfl ⟨rfl,Yn p r.hn ad' cap' g' adm capm hbm,?_⟩
  rw [OUT.out]
  exact ⟨HR1.out,HR2.out,HR3.out,fun k hk=>by
   rcases HR4.out k hk with h|h|h
   ·exact Or.inl h
   ·exact Or.inr (Or.inl h)
   ·exact Or.inr (Or.inr (by omega)),rfl,rfl⟩
 ·have OUT:=hid (show Zo r m=r from if_neg hn)
  generalize Zo r m=O at *
  go_enter Tryz.func150,Tryz.ntmps150
  go_wp2_with (first|((with_reducible show wpList _ _ _ (⟨some 3,_,_,_,_,_⟩::_) _ _);clear mark;go_must (have M0:=hid (Bx.new w (msL m adm capm).toArray 52);have hB0:Below w.1.size w (w.alloc (.cells (msL m adm capm).toArray 52)):=Zb _ _;have zS:w.1.size<(w.alloc (.cells (msL m adm capm).toArray 52)).1.size:=(by simp);(generalize (w.alloc (.cells (msL m adm capm).toArray 52))=W at *);have BX:=hid (HBX.out.below hB0 HBL);obtain ⟨q0,q1,q2,q3,q4,q5,q6,q7,q8,q9,q10,q11,q12,q13,q14,q15,q16,q17⟩:=Ze BX.out.cell;clear q1 q2 q3 q4 q5 q6 q7 q8 q10 q11 q12 q13 q14 q15 q16 q17;have qc:=(hB0.cell (p:=⟨q,0,none⟩) HQ1).trans HQC.out;have m1:W.cell? ⟨w.1.size,1,none⟩=some (.int .i64 m.from_):=M0.out.cell 1;have mf:=M0.out.free)))
  refine bodyPost_end (results_none rfl _ _ _) rfl ⟨rfl,p,?_⟩
  rw [OUT.out]
  exact ⟨BX.out,HG.out.grow hB0,FrP.of_below hB0,fun k hk=>Or.inl hk,rfl,rfl⟩
def Jh (d:Dk) (b kn:Int):Nat→Nat→Nat
 | 0,j=>j
 | f+1,j=>if (j:Int)<kn∧(d.s j).bal=b then Jh d b kn f (j+1) else j
def beatN (r:Rc) (m:Ms):Rc:=if r.dk.kn<m.kn then Zo r ⟨7,0,m.from_,m.bal,r.dk.kn+1,0,⟨#[]⟩,0,fun _=>⟨0,⟨#[]⟩⟩⟩ else r
abbrev KO (r:Rc) (m:Ms) (k:Nat):Ms:=⟨8,0,m.from_,0,0,0,r.ws k,0,fun _=>⟨0,⟨#[]⟩⟩⟩
def YO (r:Rc) (m:Ms):Nat→Rc
 | 0=>r
 | k+1=>Zo (YO r m k) (KO (YO r m k) m k)
def beatK (r:Rc) (m:Ms):Nat:=Jh r.dk m.bal m.kn (r.dk.n-r.dk.kn.toNat) r.dk.kn.toNat
def XO (r:Rc) (m:Ms):Rc:=YO r m r.wn
def Fy (B g iq bn cap:Nat) (bl:Int) (tx:ByteArray) (_R:World→Prop) (_W:World) (i:Nat) (v:Value) (_X:World):Prop:=
 match i with
 | 0=>v=.pointer (some ⟨B,0,none⟩)
 | 1=>v=.pointer (some ⟨B,0,none⟩)
 | 2=>v=.pointer (some ⟨B,6,none⟩)
 | 3=>v=.int .i64 (iq:Int)
 | 4=>v=.int .i64 ((iq:Int)+1)
 | 5=>v=.pointer (some ⟨B,0,none⟩)
 | 6=>v=.pointer (some ⟨B,0,none⟩)
 | 7=>v=.pointer (some ⟨B,13,none⟩)
 | 8=>v=.int .i64 bl
 | 9=>v=.slice (some ⟨g,0,none⟩) bn cap
 | 10=>v=.int .i64 (iq:Int)
 | 11=>v=.pointer (some ⟨g,iq*2,none⟩)
 | 12=>v=.pointer (some ⟨g,iq*2+1,none⟩)
 | 13=>v=.string tx
 | 14=>v=.agg #[.int .i64 bl,.string tx]
 | _=>True
set_option maxRecDepth 100000 in
theorem leaReg6 (p1 p4 p5 p6 p7 p8 p9 ze zc za zd zi zj zg zh zn zm zo zp zq yb yf ye z9 yd z8 z0 zu zy zt yg j8:Value) (w0 w1 w2 w3 w4 w5 w6 w7 w8 w9 w10 w11 w12 w13 w14:Value) (B g iq bn cap:Nat) (bl:Int) (tx:ByteArray) (R:World→Prop) (W:World) (hB:B<W.1.size) (hgl:g<W.1.size) (hi:iq<bn) (hbn:bn≤1000) (c13:W.cell? ⟨B,13,none⟩=some (.int .i64 bl)) (cg:W.cell? ⟨g,iq*2+1,none⟩=some (.string tx)) (hQc:∀ X,Below W.1.size W X→Calls Tryz.prog 154 #[.pointer (some ⟨B,6,none⟩),.int .i64 ((iq:Int)+1),.agg #[.int .i64 bl,.string tx]] X fun e w'=>e=.returned (.tuple #[])∧R w') (Q:Exit→Act→World→Prop) (hQ:∀ (t:Nat→Value) (v3:Value) X,R X→Q .normal ⟨#[.pointer (some ⟨B,0,none⟩),p1,.slice (some ⟨g,0,none⟩) bn cap,.int .i64 (iq:Int),p4,p5,p6,p7,p8,p9,ze,zc,za,zd,zi,zj,zg,zh,zn,zm,zo,zp,zq,yb,yf,ye,z9,yd,z8,z0,zu,zy,zt,yg,t 0,t 1,t 2,t 3,t 4,t 5,t 6,t 7,t 8,t 9,t 10,t 11,t 12,t 13,t 14,v3],[]⟩ X) :
  Code.wp Tryz.prog (Code.region 6 #[⟨some 34,.move (.tmp 0),81,GE,#[],none⟩,⟨some 35,.nilCheck (.tmp 34),0,GE,#[⟨0,.data⟩],none⟩,⟨some 36,.fieldAddr 38 (.tmp 35) 4,0,GE,#[⟨1,.data⟩],none⟩,⟨some 37,.move (.tmp 3),3,GE,#[],none⟩,⟨some 38,.binOp .add 3 (.tmp 37) (.const (.int .i64 1)) 3,3,GE,#[⟨3,.data⟩],none⟩,⟨some 39,.move (.tmp 0),81,GE,#[],none⟩,⟨some 40,.nilCheck (.tmp 39),0,GE,#[⟨5,.data⟩],none⟩,⟨some 41,.fieldAddr 38 (.tmp 40) 9,0,GE,#[⟨6,.data⟩],none⟩,⟨some 42,.load 3 (.tmp 41),3,GE,#[⟨7,.data⟩],none⟩,⟨some 43,.move (.tmp 2),32,GE,#[],none⟩,⟨some 44,.move (.tmp 3),3,GE,#[],none⟩,⟨some 45,.indexAddr 32 (.tmp 43) (.tmp 44),0,GE,#[⟨9,.data⟩,⟨10,.data⟩],none⟩,⟨some 46,.fieldAddr 109 (.tmp 45) 1,0,GE,#[⟨11,.data⟩],none⟩,⟨some 47,.load 9 (.tmp 46),9,GE,#[⟨12,.data⟩],none⟩,⟨some 48,.build 109 #[(0,.tmp 42),(1,.tmp 47)],109,GE,#[⟨8,.data⟩,⟨13,.data⟩],none⟩,⟨some 49,.call ⟨.value (.func 154),#[.tmp 36,.tmp 38,.tmp 48],#[155,3,109]⟩,0,GE,#[⟨2,.data⟩,⟨4,.data⟩,⟨14,.data⟩],none⟩] true) Q ⟨#[.pointer (some ⟨B,0,none⟩),p1,.slice (some ⟨g,0,none⟩) bn cap,.int .i64 (iq:Int),p4,p5,p6,p7,p8,p9,ze,zc,za,zd,zi,zj,zg,zh,zn,zm,zo,zp,zq,yb,yf,ye,z9,yd,z8,z0,zu,zy,zt,yg,w0,w1,w2,w3,w4,w5,w6,w7,w8,w9,w10,w11,w12,w13,w14,j8],[]⟩ W:=by
 refine ZL (by kernel_rfl) 15 (fun t:Nat→Value=>#[.pointer (some ⟨B,0,none⟩),p1,.slice (some ⟨g,0,none⟩) bn cap,.int .i64 (iq:Int),p4,p5,p6,p7,p8,p9,ze,zc,za,zd,zi,zj,zg,zh,zn,zm,zo,zp,zq,yb,yf,ye,z9,yd,z8,z0,zu,zy,zt,yg,t 0,t 1,t 2,t 3,t 4,t 5,t 6,t 7,t 8,t 9,t 10,t 11,t 12,t 13,t 14,j8]) (fun i=>match i with|0=>w0|1=>w1|2=>w2|3=>w3|4=>w4|5=>w5|6=>w6|7=>w7|8=>w8|9=>w9|10=>w10|11=>w11|12=>w12|13=>w13|_=>w14) (Fy B g iq bn cap bl tx R W) (fun a X=>∃ (t:Nat→Value) (v3:Value),a=⟨#[.pointer (some ⟨B,0,none⟩),p1,.slice (some ⟨g,0,none⟩) bn cap,.int .i64 (iq:Int),p4,p5,p6,p7,p8,p9,ze,zc,za,zd,zi,zj,zg,zh,zn,zm,zo,zp,zq,yb,yf,ye,z9,yd,z8,z0,zu,zy,zt,yg,t 0,t 1,t 2,t 3,t 4,t 5,t 6,t 7,t 8,t 9,t 10,t 11,t 12,t 13,t 14,v3],[]⟩∧R X) (by kernel_rfl) (by kernel_rfl) (by kernel_rfl) ?_ rfl ?_ ?_ ?_
 ·exact fun _ _ _ _ _ h _=>h
 ·intro i hi t X K hb hg hK
  rcases (show i=0∨i=1∨i=2∨i=3∨i=4∨i=5∨i=6∨i=7∨i=8∨i=9∨i=10∨i=11∨i=12∨i=13∨i=14 by omega) with rfl|rfl|rfl|rfl|rfl|rfl|rfl|rfl|rfl|rfl|rfl|rfl|rfl|rfl|rfl
  ·exact sg
  ·have ea:t 0=.pointer (some ⟨B,0,none⟩):=hg 0 (Wt rfl)
   exact sg
  ·have ea:t 1=.pointer (some ⟨B,0,none⟩):=hg 1 (Wt rfl)
   exact sg
  ·exact sg
  ·have e3:t 3=.int .i64 (iq:Int):=hg 3 (Wt rfl)
   have e9:t 3=.int .i64 (iq:Int):=hg 3 (Wt rfl)
   have h:=hK _ X rfl (br _ _)
   refine Zi rfl rfl ?_
   clear hK hg
   have hw:IntKind.i64.wrap ((iq:Int)+1)=(iq:Int)+1:=by rw [IntKind.wrap_i64];omega
   simp only [e9]
   go_simp
   simpa [updT,e9,hw] using h
  ·exact sg
  ·have ea:t 5=.pointer (some ⟨B,0,none⟩):=hg 5 (Wt rfl)
   exact sg
  ·have ea:t 6=.pointer (some ⟨B,0,none⟩):=hg 6 (Wt rfl)
   exact sg
  ·have ea:t 7=.pointer (some ⟨B,13,none⟩):=hg 7 (Wt rfl)
   have f1:=(hb.cell (p:=⟨B,13,none⟩) hB).trans c13
   exact sg
  ·exact sg
  ·exact sg
  ·have ea:t 9=.slice (some ⟨g,0,none⟩) bn cap:=hg 9 (Wt rfl)
   have eb:t 10=.int .i64 (iq:Int):=hg 10 (Wt rfl)
   have hi2:=hi
   exact sg
  ·have ea:t 11=.pointer (some ⟨g,iq*2,none⟩):=hg 11 (Wt rfl)
   exact sg
  ·have ea:t 12=.pointer (some ⟨g,iq*2+1,none⟩):=hg 12 (Wt rfl)
   have f1:=(hb.cell (p:=⟨g,iq*2+1,none⟩) hgl).trans cg
   exact sg
  ·have ea:t 8=.int .i64 bl:=hg 8 (Wt rfl)
   have eb:t 13=.string tx:=hg 13 (Wt rfl)
   exact sg
 ·intro t X K hb hg hK
  have e2:t 2=.pointer (some ⟨B,6,none⟩):=hg 2 (by omega)
  have e4:t 4=.int .i64 ((iq:Int)+1):=hg 4 (by omega)
  have e14:t 14=.agg #[.int .i64 bl,.string tx]:=hg 14 (by omega)
  refine Zi rfl rfl ?_
  have HK:=hid hK
  have HC:=hid (hQc X hb)
  clear hK hg hQc
  simp only [e2,e4,e14]
  go_simp
  go_at_call 154
  refine HC.out.mono ?_
  rintro e Y ⟨rfl,hR⟩
  have h:=HK.out _ Y ⟨t,.tuple #[],rfl,hR⟩
  simpa [e2,e4,e14] using h
 ·rintro a X ⟨t,v3,rfl,hp⟩
  exact hQ t v3 X hp
abbrev leadS (r:Rc):Rc:=⟨r.num,r.of,r.up,r.sf,r.dk,r.hn,r.hs,r.wn,r.ws,true,false,r.bal,0,fun _=>0,0,fun _=>⟨0,⟨#[]⟩⟩,0,fun _=>⟨0,0,fun _=>0⟩,r.hd⟩
def YS (r:Rc) (bs:Nat→Sl) (a:Nat):Nat→Rc
 | 0=>r
 | k+1=>JA (YS r bs a k) (a+k) ⟨(YS r bs a k).bal,(bs (a+k)).text⟩
def JF (r:Rc):Rc:=YS (leadS r) r.bs r.dk.kn.toNat (r.bn-r.dk.kn.toNat)
theorem RcG.lead {w:World} {r:Rc} {p:RcP} (h:RcG w r p):RcG w (leadS r) (Yo p none none none 0 0 0):=by
 have hg:=h.calm none none none 0 0 0
 exact ⟨⟨hg.at_.o0,hg.at_.o1,hg.at_.o2,hg.at_.o3,hg.at_.o4,hg.at_.o5,hg.at_.o6,hg.at_.lt,hg.at_.ap⟩,⟨hg.rm.dl,hg.rm.d0,hg.rm.dr,hg.rm.hl,hg.rm.h0,hg.rm.hr⟩⟩
theorem Om {p:RcP} {r:Rc} {k:Nat} (h:rbs (Yo p none none none 0 0 0) (leadS r) k):rbs p r k:=Xv (r:=r) h
theorem UG {w:World} {p:RcP} {r:Rc} (hg:RcG w r p) (h0:r.bn≠0):¬rbs (Yo p none none none 0 0 0) (leadS r) p.g5:=by
 rintro ⟨j,hj,hk⟩
 have hk':rb (Yo p none none none 0 0 0) (ZD r) j p.g5:=hk
 have h1:=KU hj hk'
 have:=hg.at_.ap j 5 p.g5 hj (by omega) h1 ⟨h0,rfl⟩
 subst this
 exact hk.1 rfl
abbrev XM (r:Rc) (n:Nat) (s:Nat→Int):Rc:=⟨r.num,r.of,r.up,r.sf,r.dk,r.hn,r.hs,r.wn,r.ws,r.ld,r.tr,r.bal,n,s,r.bn,r.bs,r.an,r.as_,r.hd⟩
abbrev Ui (p:RcP) (ad:Option Addr) (cap b:Nat):RcP:={ p with A:={ p.A with ya:=ad,yc:=cap },g4:=b }
theorem Uf {p:RcP} {r:Rc} {ad:Option Addr} {n cap b:Nat} {s:Nat→Int} {j k:Nat} (hj:j<7) (h4:j≠4):rb (Ui p ad cap b) (XM r n s) j k↔rb p r j k:=by
 rcases (show j=0∨j=1∨j=2∨j=3∨j=5∨j=6 by omega) with rfl|rfl|rfl|rfl|rfl|rfl<;>exact Iff.rfl
theorem RcG.yes {w:World} {r:Rc} {p:RcP} (h:RcG w r p) {ad:Option Addr} {n cap b:Nat} {s:Nat→Int} (o:IntsOwn w b (b+1) ad n s) (hl:n≠0→b<w.1.size) (hb:n≠0→∀ j,j<7→j≠4→¬rb p r j b) :
  RcG w (XM r n s) (Ui p ad cap b):=by
 have key:∀ j k,j<7→j≠4→rb (Ui p ad cap b) (XM r n s) j k→rb (Ui p ad cap b) (XM r n s) 4 k→False:=fun j k hj h4 h1 h2=>by
  obtain ⟨h0,e⟩:n≠0∧k=b:=h2
  subst e
  exact hb h0 j hj h4 ((Uf hj h4).1 h1)
 refine ⟨⟨h.at_.o0,h.at_.o1,h.at_.o2,h.at_.o3,o,h.at_.o5,h.at_.o6,fun k ⟨j,hj,hk⟩=>?_,fun i j k hi hj h1 h2=>?_⟩,⟨h.rm.dl,h.rm.d0,h.rm.dr,h.rm.hl,h.rm.h0,h.rm.hr⟩⟩
 ·by_cases e:j=4
  ·subst e
   obtain ⟨h0,e⟩:n≠0∧k=b:=hk
   subst e
   exact hl h0
  ·exact h.at_.lt k ⟨j,hj,(Uf hj e).1 hk⟩
 ·by_cases ei:i=4
  ·by_cases ej:j=4
   ·omega
   ·subst ei;exact (key j k hj ej h2 h1).elim
  ·by_cases ej:j=4
   ·subst ej;exact (key i k hi ei h1 h2).elim
   ·exact h.at_.ap i j k hi hj ((Uf hi ei).1 h1) ((Uf hj ej).1 h2)
theorem PF {p:RcP} {r:Rc} {ad:Option Addr} {n cap b:Nat} {s:Nat→Int} {k:Nat} (h:rbs (Ui p ad cap b) (XM r n s) k):rbs p r k∨(n≠0∧k=b):=by
 obtain ⟨j,hj,hk⟩:=h
 by_cases e:j=4
 ·subst e;exact Or.inr hk
 ·exact Or.inl ⟨j,hj,(Uf hj e).1 hk⟩
abbrev ZU (r:Rc) (n:Nat) (s:Nat→Sl):Rc:=⟨r.num,r.of,r.up,r.sf,r.dk,r.hn,r.hs,r.wn,r.ws,r.ld,r.tr,r.bal,r.yn,r.ys,n,s,r.an,r.as_,r.hd⟩
abbrev YN (p:RcP) (ad:Option Addr) (cap b:Nat):RcP:={ p with A:={ p.A with ba:=ad,bc:=cap },g5:=b }
theorem JZ {p:RcP} {r:Rc} {ad:Option Addr} {n cap b:Nat} {s:Nat→Sl} {j k:Nat} (hj:j<7) (h5:j≠5):rb (YN p ad cap b) (ZU r n s) j k↔rb p r j k:=by
 rcases (show j=0∨j=1∨j=2∨j=3∨j=4∨j=6 by omega) with rfl|rfl|rfl|rfl|rfl|rfl<;>exact Iff.rfl
theorem RcG.best {w:World} {r:Rc} {p:RcP} (h:RcG w r p) {ad:Option Addr} {n cap b:Nat} {s:Nat→Sl} (o:SlsAt w ad b n s) (hl:n≠0→b<w.1.size) (hb:n≠0→∀ j,j<7→j≠5→¬rb p r j b) :
  RcG w (ZU r n s) (YN p ad cap b):=by
 have key:∀ j k,j<7→j≠5→rb (YN p ad cap b) (ZU r n s) j k→rb (YN p ad cap b) (ZU r n s) 5 k→False:=fun j k hj h4 h1 h2=>by
  obtain ⟨h0,e⟩:n≠0∧k=b:=h2
  subst e
  exact hb h0 j hj h4 ((JZ hj h4).1 h1)
 refine ⟨⟨h.at_.o0,h.at_.o1,h.at_.o2,h.at_.o3,h.at_.o4,o,h.at_.o6,fun k ⟨j,hj,hk⟩=>?_,fun i j k hi hj h1 h2=>?_⟩,⟨h.rm.dl,h.rm.d0,h.rm.dr,h.rm.hl,h.rm.h0,h.rm.hr⟩⟩
 ·by_cases e:j=5
  ·subst e
   obtain ⟨h0,e⟩:n≠0∧k=b:=hk
   subst e
   exact hl h0
  ·exact h.at_.lt k ⟨j,hj,(JZ hj e).1 hk⟩
 ·by_cases ei:i=5
  ·by_cases ej:j=5
   ·omega
   ·subst ei;exact (key j k hj ej h2 h1).elim
  ·by_cases ej:j=5
   ·subst ej;exact (key i k hi ei h1 h2).elim
   ·exact h.at_.ap i j k hi hj ((JZ hi ei).1 h1) ((JZ hj ej).1 h2)
theorem On {p:RcP} {r:Rc} {ad:Option Addr} {n cap b:Nat} {s:Nat→Sl} {k:Nat} (h:rbs (YN p ad cap b) (ZU r n s) k):rbs p r k∨(n≠0∧k=b):=by
 obtain ⟨j,hj,hk⟩:=h
 by_cases e:j=5
 ·subst e;exact Or.inr hk
 ·exact Or.inl ⟨j,hj,(JZ hj e).1 hk⟩
theorem Pt (B:Nat) (w:World) :
  Calls Tryz.prog 117 #[.pointer (some ⟨B,0,none⟩)] w fun e w'=>∃ qh,e=.returned (.func (.func 150) #[] #[.pointer (some ⟨qh,0,none⟩)])∧qh=w.1.size∧qh<w'.1.size∧w'.cell? ⟨qh,0,none⟩=some (.pointer (some ⟨B,0,none⟩))∧Below w.1.size w w':=by
 go_enter Tryz.func117,Tryz.ntmps117
 go_wp2
 go_ret
 exact ⟨w.1.size,rfl,rfl,by simp,by simp,Zb _ _⟩
def Nn (a b:Int):Int:=if a<b then -1 else if b<a then 1 else 0
theorem OR (a b:Int):decide (Nn a b<0)=decide (a<b):=by
 unfold Nn
 by_cases h:a<b
 ·rw [if_pos h];simp [h]
 ·rw [if_neg h]
  by_cases h2:b<a
  ·rw [if_pos h2];simp [h]
  ·rw [if_neg h2];simp [h]
set_option maxRecDepth 100000 in
theorem Pn (a:Int) (w:World):Calls Tryz.prog 184 #[.int .i64 a] w fun e w'=>e=.returned (.bool false)∧w'=w:=by
 go_enter Tryz.func184,Tryz.ntmps184
 go_wp2
 go_ret
 exact ⟨Zh (by simp),rfl⟩
theorem Gl {P:Prop} (h:P:=by
  go_enter Tryz.func182,Tryz.ntmps182
  go_wp2_with (first|(go_at_call 184;refine (Pn _ _).mono ?_;rintro e w0 ⟨rfl,hq⟩;replace hq:=hq.symm;subst hq))
  go_ret
  exact ⟨ZE HE.out.symm,rfl⟩):P:=h
set_option maxRecDepth 100000 in
theorem FK (a b:Int) (w:World):Calls Tryz.prog 182 #[.int .i64 a,.int .i64 b] w fun e w'=>e=.returned (.int .i64 (Nn a b))∧w'=w:=by
 by_cases h:a<b
 ·have HE:=hid (show Nn a b = -1 by simp [Nn,h])
  exact Gl
 ·by_cases h2:b<a
  ·have HE:=hid (show Nn a b=1 by simp [Nn,h,h2])
   exact Gl
  ·have HE:=hid (show Nn a b=0 by simp [Nn,h,h2])
   exact Gl
set_option maxRecDepth 100000 in
theorem Jb (x y:Sl) (w:World):Calls Tryz.prog 174 #[slV x,slV y] w fun e w'=>e=.returned (.int .i64 (Nn x.bal y.bal))∧Below w.1.size w w':=by
 go_enter Tryz.func174,Tryz.ntmps174
 go_wp2_with fail
 refine (FK _ _ _).mono ?_
 rintro e w1 ⟨rfl,hq⟩
 replace hq:=hq.symm
 subst hq
 go_wp2
 go_ret
 exact ⟨rfl,(Zb _ _).alloc (by simp) _⟩
def mgS (na:Nat) (x:Nat→Sl) (nb:Nat) (y:Nat→Sl) (i:Nat):Sl:=if i<na then (if i<nb then (if (x i).bal<(y i).bal then y i else x i) else x i) else y i
theorem Kv {na:Nat} {x:Nat→Sl} {k:Nat} {y:Nat→Sl} {i:Nat} (h:¬i=k):mgS na x (k+1) y i=mgS na x k y i:=by
 unfold mgS
 have e:(i<k+1)=(i<k):=propext ⟨fun _=>by omega,fun _=>by omega⟩
 simp only [e]
theorem RowF.fill {w:World} {g m l:Nat} {c:Nat→Value} (h:RowF w g m c) (d:Nat→Value) (hl:l≤m):RowF (w.setCells g 0 (Zg l d)) g m (fun j=>if j<l then d j else c j):=by
 refine ⟨by rw [ZB];exact h.lt,fun j=>by rw [World.frozen?_setCells];exact h.free j,fun j hj=>?_⟩
 by_cases e:j<l
 ·have:=World.cell?_setCells_in g (Zg l d) 0 w (fun i hi=>by
   rw [Zj] at hi
   rw [Nat.zero_add,h.cell i (by omega)];rfl) j (by rw [Zj];exact e)
  rw [Nat.zero_add,ZG] at this
  rw [this,if_pos e]
 ·rw [if_neg e,World.cell?_setCells_out g (Zg l d) 0 w ⟨g,j,none⟩ (fun _ _=>Or.inr (by rw [Zj];show 0+l≤j;omega))]
  exact h.cell j hj
theorem Gk {P:Prop} (h:P:=by
  go_wp2
  go_ret
  exact ⟨⟨60,by first|rfl|(rw [HMX.out];rfl)|(rw [HMX.out];simp)⟩,⟨c,RRH.out,fun i hi9=>AT.out i (by omega)⟩,FRH.out⟩):P:=h
theorem apRa3 {P:Prop} (h:P:=by
  go_wp2
  go_roundw
  case rel=>exact ⟨k+1,_,by omega,by go_num,(FR.out.setCell (p:=⟨R,k*2,none⟩) rfl _).setCell (p:=⟨R,k*2+1,none⟩) rfl _,(RW.out.set (o:=k*2) (by omega) _).set (o:=k*2+1) (by omega) _,AT2.out⟩
  case measure=>simp [intOf];omega):P:=h
set_option maxRecDepth 100000 in
theorem Y9 (na nb:Nat) (x y:Nat→Sl) (ba oa ca bb ob cb R:Nat) (c0:Nat→Value) (w:World) (lo hi:Nat) (ha:na≤60) (hb:nb≤60) (hR:hi≤R) (hr:RowF w R 120 c0) (hx:SlsIn w lo hi (some ⟨ba,oa,none⟩) na x) (hy:SlsIn w lo hi (some ⟨bb,ob,none⟩) nb y) :
  Calls Tryz.prog 173 #[.slice (some ⟨R,0,none⟩) 60 60,.slice (some ⟨ba,oa,none⟩) na ca,.slice (some ⟨bb,ob,none⟩) nb cb,.func (.func 174) #[] #[]] w fun e w'=>(∃ cap,e=.returned (.slice (some ⟨R,0,none⟩) (max na nb) cap))∧(∃ c,RowF w' R 120 c∧∀ i,i<max na nb→atSl c i (mgS na x nb y i))∧FrP (fun q=>q=R) w w':=by
 have hzR:R<w.1.size:=hr.lt
 obtain ⟨i0,hi0,hz0,hz1,hz2⟩:=info_parts Tryz.info109
 have hsz:(Tryz.prog.info? 109).map (·.size)=some 2:=by rw [hi0];simp [hz1]
 have hmin:Nat.min na 60=na:=Nat.min_eq_left ha
 have hrun:=Yd (P:=Tryz.prog) w 32 32 3 109 R 0 60 60 ⟨ba,oa,none⟩ na ca 2 (Zg (na*2) (YW 2 (slR x))) Tryz.underlying32 hsz (by rw [Zj,hmin]) (by
  intro j u hj
  obtain ⟨h1,rfl⟩:=ZP hj
  obtain ⟨b',off',e',_,e3,e4⟩:=hx.src.at_ j h1
  cases e'
  rw [show ((⟨ba,oa,none⟩:Addr).add j)=⟨ba,oa+j,none⟩ by unfold Addr.add;split<;>simp_all]
  exact e4) (by intro j hj;rw [Zj] at hj;rw [Nat.zero_add,hr.cell j (by omega)];rfl) (by intro j _;exact hr.free _) (by intro v hv;obtain ⟨i,hi,rfl⟩:=List.mem_map.1 hv;exact hx.src.one i (by simpa using hi))
 have R1:=hid (hr.fill (YW 2 (slR x)) (l:=na*2) (by omega))
 have F1:=hid (FrP.of_fr (P:=fun q=>q=R) (Zx R (Zg (na*2) (YW 2 (slR x))) 0 w) (fun k h1 h2=>by omega))
 have AT1:Hid (∀ i,i<max na 0→atSl (fun j=>if j<na*2 then YW 2 (slR x) j else c0 j) i (mgS na x 0 y i)):=fun i hi=>by
  have h9:i<na:=by omega
  obtain ⟨q0,q1⟩:=Ud x i
  rw [show mgS na x 0 y i=x i by simp [mgS,h9]]
  exact ⟨(if_pos (by omega)).trans q0,(if_pos (by omega)).trans q1⟩
 have HX:=hid hx
 have HY:=hid hy
 clear hx hy hr hmin
 go_enter Tryz.func173,Tryz.ntmps173
 go_wp2
 clear hrun
 generalize w.setCells R 0 (Zg (na*2) (YW 2 (slR x)))=W at *
 go_loopw [16] (fun i wr=>∃ (k:Nat) (c:Nat→Value),k≤nb∧i=.int .i64 k∧FrP (fun q=>q=R) w wr∧RowF wr R 120 c∧Hid (∀ i,i<max na k→atSl c i (mgS na x k y i))) (fun i _=>nb-(intOf i).toNat)
 case atStart=>exact ⟨0,_,zle _,rfl,F1.out,R1.out,AT1.out⟩
 case round=>
  obtain ⟨k,c,hk,rfl,fr,rr,AT⟩:=hrel
  by_cases hkn:k<nb
  ·obtain ⟨b',off',e',hlo,hbh,hcy⟩:=HY.out k hkn
   cases e'
   have hzw:=fr.size
   have hbl:Below hi w wr:=fr.below (B:=hi) (fun q hq e=>by omega) (by omega)
   obtain ⟨e0,e1⟩:=hcy.below hbl hbh
   by_cases hge:(na:Int)≤k
   ·go_wp2
    have hbX:=Zb wr (.cells #[.int .i64 (y k).bal,.string (y k).text] 109)
    have g0:(wr.alloc (.cells #[.int .i64 (y k).bal,.string (y k).text] 109)).cell? ⟨wr.1.size,0,none⟩=some (.int .i64 (y k).bal):=Zt wr _ 109 0
    have g1:(wr.alloc (.cells #[.int .i64 (y k).bal,.string (y k).text] 109)).cell? ⟨wr.1.size,1,none⟩=some (.string (y k).text):=Zt wr _ 109 1
    have hzX:(wr.alloc (.cells #[.int .i64 (y k).bal,.string (y k).text] 109)).1.size=wr.1.size+1:=World.size_alloc _ _
    generalize wr.alloc (.cells #[.int .i64 (y k).bal,.string (y k).text] 109)=X at *
    have hne:Nonempty (GW X):=⟨⟨X,br _ _⟩⟩
    have s0:=Zc g0 (by show wr.1.size<_;omega)
    have s1:=Zc g1 (by show wr.1.size<_;omega)
    refine Zf (by kernel_rfl) (by kernel_rfl) ?_
    repeat (first|(go_big_quiet_step ((go_at_call 174;go_must (exact Zp (Jb (x k) (y k) _)))))|(refine wpQuiet_step (fun K hK=>?_);go_simp;refine hK _ ?_;clear hK K))
    refine wpQuiet_nil ?_
    rintro w5 ⟨u,hu⟩
    have hw5:Below X.1.size X w5:=hu▸u.prop
    have hr5:Below wr.1.size wr w5:=hbX.trans (hw5.mono (by omega))
    have RW:=hid (rr.below hr5 rr.lt)
    have FR:=hid (fr.trans (FrP.of_below hr5))
    have q0:=(hw5.cell (p:=⟨wr.1.size,0,none⟩) (by show wr.1.size<_;omega)).trans g0
    have q1:=(hw5.cell (p:=⟨wr.1.size,1,none⟩) (by show wr.1.size<_;omega)).trans g1
    have t0:=RW.out.cell (k*2) (by omega)
    have t1:=RW.out.cell (k*2+1) (by omega)
    have tf:=RW.out.free
    have AT2:Hid (∀ i,i<max na (k+1)→atSl (setF (setF c (k*2) (.int .i64 (y k).bal)) (k*2+1) (.string (y k).text)) i (mgS na x (k+1) y i)):=fun i hi9=>by
     by_cases e:i=k
     ·subst e
      rw [show mgS na x (i+1) y i=y i by simp [mgS,show ¬i<na by omega]]
      exact ⟨(if_neg (by omega)).trans (if_pos rfl),if_pos rfl⟩
     ·rw [Kv e]
      exact Yy (Yy (AT.out i (by omega)) e (k:=k) (by omega) (by omega) _) e (k:=k) (by omega) (by omega) _
    clear hu u hne s0 s1 g0 g1 hbX hw5
    exact apRa3
   ·have hka:k<na:=by omega
    have hnk:¬na≤k:=by omega
    obtain ⟨b',off',e',hlo2,hbh2,hcx⟩:=HX.out k hka
    cases e'
    obtain ⟨d0,d1⟩:=hcx.below hbl hbh2
    by_cases hcm:(x k).bal<(y k).bal
    ·have hcv:Nn (x k).bal (y k).bal<0:=by have:=OR (x k).bal (y k).bal;simpa [hcm] using this
     have HCM:=hid hcm
     clear hcm
     go_wp2
     have hbX:=Zb wr (.cells #[.int .i64 (y k).bal,.string (y k).text] 109)
     have g0:(wr.alloc (.cells #[.int .i64 (y k).bal,.string (y k).text] 109)).cell? ⟨wr.1.size,0,none⟩=some (.int .i64 (y k).bal):=Zt wr _ 109 0
     have g1:(wr.alloc (.cells #[.int .i64 (y k).bal,.string (y k).text] 109)).cell? ⟨wr.1.size,1,none⟩=some (.string (y k).text):=Zt wr _ 109 1
     have hzX:(wr.alloc (.cells #[.int .i64 (y k).bal,.string (y k).text] 109)).1.size=wr.1.size+1:=World.size_alloc _ _
     have d2:=(hbX.cell (p:=⟨ba,oa+k*2,none⟩) (by show ba<_;omega)).trans d0
     have d3:=(hbX.cell (p:=⟨ba,oa+k*2+1,none⟩) (by show ba<_;omega)).trans d1
     generalize wr.alloc (.cells #[.int .i64 (y k).bal,.string (y k).text] 109)=X at *
     have hne:Nonempty (GW X):=⟨⟨X,br _ _⟩⟩
     have s0:=Zc g0 (by show wr.1.size<_;omega)
     have s1:=Zc g1 (by show wr.1.size<_;omega)
     have s2:=Zc d2 (by show ba<_;omega)
     have s3:=Zc d3 (by show ba<_;omega)
     refine Zf (by kernel_rfl) (by kernel_rfl) ?_
     repeat (first|(go_big_quiet_step ((go_at_call 174;go_must (exact Zp (Jb (x k) (y k) _)))))|(refine wpQuiet_step (fun K hK=>?_);go_simp;refine hK _ ?_;clear hK K))
     refine wpQuiet_nil ?_
     rintro w5 ⟨u,hu⟩
     have hw5:Below X.1.size X w5:=hu▸u.prop
     have hr5:Below wr.1.size wr w5:=hbX.trans (hw5.mono (by omega))
     have RW:=hid (rr.below hr5 rr.lt)
     have FR:=hid (fr.trans (FrP.of_below hr5))
     have q0:=(hw5.cell (p:=⟨wr.1.size,0,none⟩) (by show wr.1.size<_;omega)).trans g0
     have q1:=(hw5.cell (p:=⟨wr.1.size,1,none⟩) (by show wr.1.size<_;omega)).trans g1
     have t0:=RW.out.cell (k*2) (by omega)
     have t1:=RW.out.cell (k*2+1) (by omega)
     have tf:=RW.out.free
     have AT2:Hid (∀ i,i<max na (k+1)→atSl (setF (setF c (k*2) (.int .i64 (y k).bal)) (k*2+1) (.string (y k).text)) i (mgS na x (k+1) y i)):=fun i hi9=>by
      by_cases e:i=k
      ·subst e
       rw [show mgS na x (i+1) y i=y i by simp [mgS,hka,HCM.out]]
       exact ⟨(if_neg (by omega)).trans (if_pos rfl),if_pos rfl⟩
      ·rw [Kv e]
       exact Yy (Yy (AT.out i (by omega)) e (k:=k) (by omega) (by omega) _) e (k:=k) (by omega) (by omega) _
     clear hu u hne s0 s1 g0 g1 hbX hw5 s2 s3 d2 d3
     exact apRa3
    ·have hcv:¬Nn (x k).bal (y k).bal<0:=by have:=OR (x k).bal (y k).bal;simpa [hcm] using this
     have HCM:=hid hcm
     clear hcm
     go_wp2
     have hbX:=Zb wr (.cells #[.int .i64 (y k).bal,.string (y k).text] 109)
     have g0:(wr.alloc (.cells #[.int .i64 (y k).bal,.string (y k).text] 109)).cell? ⟨wr.1.size,0,none⟩=some (.int .i64 (y k).bal):=Zt wr _ 109 0
     have g1:(wr.alloc (.cells #[.int .i64 (y k).bal,.string (y k).text] 109)).cell? ⟨wr.1.size,1,none⟩=some (.string (y k).text):=Zt wr _ 109 1
     have hzX:(wr.alloc (.cells #[.int .i64 (y k).bal,.string (y k).text] 109)).1.size=wr.1.size+1:=World.size_alloc _ _
     have d2:=(hbX.cell (p:=⟨ba,oa+k*2,none⟩) (by show ba<_;omega)).trans d0
     have d3:=(hbX.cell (p:=⟨ba,oa+k*2+1,none⟩) (by show ba<_;omega)).trans d1
     generalize wr.alloc (.cells #[.int .i64 (y k).bal,.string (y k).text] 109)=X at *
     have hne:Nonempty (GW X):=⟨⟨X,br _ _⟩⟩
     have s0:=Zc g0 (by show wr.1.size<_;omega)
     have s1:=Zc g1 (by show wr.1.size<_;omega)
     have s2:=Zc d2 (by show ba<_;omega)
     have s3:=Zc d3 (by show ba<_;omega)
     refine Zf (by kernel_rfl) (by kernel_rfl) ?_
     repeat (first|(go_big_quiet_step ((go_at_call 174;go_must (exact Zp (Jb (x k) (y k) _)))))|(refine wpQuiet_step (fun K hK=>?_);go_simp;refine hK _ ?_;clear hK K))
     refine wpQuiet_nil ?_
     rintro w5 ⟨u,hu⟩
     have hw5:Below X.1.size X w5:=hu▸u.prop
     have hr5:Below wr.1.size wr w5:=hbX.trans (hw5.mono (by omega))
     have RW:=hid (rr.below hr5 rr.lt)
     have FR:=hid (fr.trans (FrP.of_below hr5))
     have AT2:Hid (∀ i,i<max na (k+1)→atSl c i (mgS na x (k+1) y i)):=fun i hi9=>by
      by_cases e:i=k
      ·subst e
       rw [show mgS na x (i+1) y i=mgS na x i y i by (simp [mgS,hka];exact fun h=>absurd h (by have:=HCM.out;omega))]
       exact AT.out i (by omega)
      ·rw [Kv e]
       exact AT.out i (by omega)
     clear hu u hne s0 s1 g0 g1 hbX hw5 s2 s3 d2 d3
     go_wp2
     go_roundw
     case rel=>exact ⟨k+1,_,by omega,by go_num,FR.out,RW.out,AT2.out⟩
     case measure=>simp [intOf];omega
  ·have hke:k=nb:=by omega
   subst hke
   have FRH:=hid fr
   have RRH:=hid rr
   clear fr rr
   rcases Nat.lt_trichotomy k na with hmx|hmx|hmx
   ·have hmi:(k:Int)<na:=by omega
    have HMX:Hid (max na k=na):=Nat.max_eq_left (by omega)
    exact Gk
   ·subst hmx
    have HMX:Hid (max k k=k):=Nat.max_self k
    exact Gk
   ·have hmi:(na:Int)<k:=by omega
    have HMX:Hid (max na k=k):=Nat.max_eq_right (by omega)
    exact Gk
end Go.Proofs.YtokkbdlofbdljaaGreat
