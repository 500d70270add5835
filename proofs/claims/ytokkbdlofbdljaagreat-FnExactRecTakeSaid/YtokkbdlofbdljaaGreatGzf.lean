import Derived.Test.YtokkbdlofbdljaaGreatHy
import Derived.Test.YtokkbdlofbdljaaGreatHe4
import Derived.Test.YtokkbdlofbdljaaGreatTb
import Derived.Test.YtokkbdlofbdljaaGreatEr
import Derived.Test.YtokkbdlofbdljaaGreatYsh
import Derived.Laws.EntriesVeiled
import Derived.Test.YtokkbdlofbdljaaGreatGg
namespace Go.Proofs.YtokkbdlofbdljaaGreat
open Go.RowKit
set_option maxHeartbeats 8000000
def SpI (w:World) (r:Rc) (p:RcP) (r':Rc) (e:Ending) (w':World):Prop:=∃ A',e=.returned (rcV r' A')∧RcIn w' 0 w'.1.size r' A'∧FrP (rbs p r) w w'
theorem SpR.i {w:World} {r:Rc} {p:RcP} {r':Rc} {e:Ending} {w':World} (h:SpR w r p r' e w'):SpI w r p r' e w':=by
 obtain ⟨p',he,g,f,_⟩:=h
 exact ⟨p'.A,he,g.at_.isIn (fun k hk=>⟨zle _,g.at_.lt k hk⟩),f⟩
theorem Uw (r:Rc) (p:RcP) (m:Ms) (mb mo mc:Nat) (of:Int) (w:World) (hg:RcG w r p) (hws:WsOk w r p) (hcp:CpOk r p) (hv:VdR r) (hm:msB m of=true) (hmc:m.n≤mc) (hms:SlsIn w 0 w.1.size (some ⟨mb,mo,none⟩) m.n m.s) :
  Calls Tryz.prog 67 #[rcV r p.A,msV m (some ⟨mb,mo,none⟩) mc] w fun e w'=>SpI w r p (takR r m) e w':=by
 obtain ⟨m1,m2,m3,m4,m5,m6⟩:=J0 hm
 rcases (show m.kind=1∨m.kind=2∨m.kind=3∨m.kind=4∨m.kind=5∨m.kind=6∨m.kind=7∨m.kind=8∨m.kind=9 by omega) with hk|hk|hk|hk|hk|hk|hk|hk|hk
 ·have e:takR r m=preR r m:=by unfold takR;rw [if_pos hk]
  rw [e]
  exact (take_sp_1 r p m _ mc w hg hk hv.lim.dn).mono (fun e w' h=>h.i)
 ·have e:takR r m=prmR r m:=by unfold takR;rw [if_neg (by omega)];rw [if_pos hk]
  rw [e]
  exact (take_sp_2 r p m mb mo mc w hg hk hcp (by have:=hv.yn;omega) hv.lim.bn hv.ack.k0 m1.2.1 hmc hms).mono (fun e w' h=>h.i)
 ·have e:takR r m=accR r m:=by unfold takR;rw [if_neg (by omega)];rw [if_neg (by omega)];rw [if_pos hk]
  rw [e]
  exact (take_sp_3 r p m _ mc w hg hk m4).mono (fun e w' h=>h.i)
 ·have e:takR r m=acdR r m:=by unfold takR;rw [if_neg (by omega)];rw [if_neg (by omega)];rw [if_neg (by omega)];rw [if_pos hk]
  rw [e]
  exact (take_sp_4 r p m _ mc w hg hk hcp hv.ack).mono (fun e w' h=>h.i)
 ·have e:takR r m=XN r m:=by unfold takR;rw [if_neg (by omega)];rw [if_neg (by omega)];rw [if_neg (by omega)];rw [if_neg (by omega)];rw [if_pos hk]
  rw [e]
  exact (take_sp_5 r p m _ mc w hg hk ⟨hv.ack.k0,hv.ack.k1,hv.ack.dn⟩ (by have:=hv.lim.wn;omega)).mono (fun e w' h=>h.i)
 ·have e:takR r m=choR r m:=by unfold takR;rw [if_neg (by omega)];rw [if_neg (by omega)];rw [if_neg (by omega)];rw [if_neg (by omega)];rw [if_neg (by omega)];rw [if_pos hk]
  rw [e]
  exact (take_sp_6 r p m _ mc w hg hk ⟨hv.ack.k0,by have:=hv.ack.k1;have:=hv.ack.dn;omega⟩).mono (fun e w' h=>h.i)
 ·have e:takR r m=XD r m:=by unfold takR;rw [if_neg (by omega)];rw [if_neg (by omega)];rw [if_neg (by omega)];rw [if_neg (by omega)];rw [if_neg (by omega)];rw [if_neg (by omega)];rw [if_pos hk]
  rw [e]
  exact (take_sp_7 r p m _ mc w hg hk m4 ⟨hv.ack.k0,hv.ack.k1,hv.ack.dn⟩).mono (fun e w' h=>h.i)
 ·have e:takR r m=Yg r m.text:=by unfold takR;rw [if_neg (by omega)];rw [if_neg (by omega)];rw [if_neg (by omega)];rw [if_neg (by omega)];rw [if_neg (by omega)];rw [if_neg (by omega)];rw [if_neg (by omega)];rw [if_pos hk]
  rw [e]
  exact (take_sp_8 r p m _ mc w hg hk hv.lim.small hws ⟨hv.ack.k0,hv.ack.k1⟩ hv.bal (by have:=m1.1;omega)).mono (fun e w' h=>h)
 ·have e:takR r m=rfdR r m:=by unfold takR;rw [if_neg (by omega)];rw [if_neg (by omega)];rw [if_neg (by omega)];rw [if_neg (by omega)];rw [if_neg (by omega)];rw [if_neg (by omega)];rw [if_neg (by omega)];rw [if_neg (by omega)];skip
  rw [e]
  exact (take_sp_9 r p m _ mc w hg hk).mono (fun e w' h=>h.i)
def tkReg6G (r:Rc) (p:RcP) (m:Ms) (ma:Option Addr) (mc:Nat) (O:Rc) (W:World) (i:Nat) (v:Value) (X:World):Prop:=
 match i with
 | 0=>v=.agg (rcC r p.A)
 | 1=>v=.agg #[.int .i64 m.kind,.int .i64 m.from_,.int .i64 m.to,.int .i64 m.bal,.int .i64 m.ix,.int .i64 m.kn,.string m.text,.slice ma m.n mc]
 | 2=>∃ ad' cap' b',v=msV m ad' cap'∧SlsAt X ad' b' m.n m.s∧W.1.size≤b'∧(m.n≠0→b'<X.1.size)∧(∃ g,ad'=some ⟨g,0,none⟩)∧m.n≤cap'
 | 3=>∃ A':RcA,v=rcV O A'∧RcIn X 0 X.1.size O A'
 | 4=>∃ p':RcP,v=rcV O p'.A∧RcAt X O p'∧(∀ k,rbs p' O k→W.1.size≤k)
 | _=>True
set_option maxRecDepth 100000 in
theorem tkReg6 (p0 p1 p2 p6 p7 p8 p9 p10 p11 p12 p13 p14 p15 p16 p17 p18 p19 p20 p21 p22 p23 p24 p25 p26 p27 p28 p29 v0 v1 v2 v3 v4:Value) (B M Z:Nat) (r:Rc) (p:RcP) (m:Ms) (ma:Option Addr) (mc:Nat) (O:Rc) (W:World) (hX:Bx W B (rcC r p.A)) (hM:Bx W M #[.int .i64 m.kind,.int .i64 m.from_,.int .i64 m.to,.int .i64 m.bal,.int .i64 m.ix,.int .i64 m.kn,.string m.text,.slice ma m.n mc]) (hZ:Bx W Z (rcL 0 0 false).toArray) (nZ:¬rbs p r Z) (nB:¬rbs p r B) (nM:¬rbs p r M) (hlt:∀ k,rbs p r k→k<W.1.size) (hmn:(m.n:Int)≤1048576) (hsm:ZW O) (hms:SlsIn W 0 W.1.size ma m.n m.s) (hmN:∀ b,b<W.1.size→∀ i,i<m.n→∀ off,ma=some ⟨b,off,none⟩→¬rbs p r b)
  (hQc:∀ X mb mo mc',Below W.1.size W X→m.n≤mc'→SlsIn X 0 X.1.size (some ⟨mb,mo,none⟩) m.n m.s→Calls Tryz.prog 67 #[rcV r p.A,msV m (some ⟨mb,mo,none⟩) mc'] X fun e w'=>SpI X r p O e w') (Q:Exit→Act→World→Prop)
  (hQ:∀ (t:Nat→Value) (p':RcP) (Y X:World),RcAt Y O p'→(∀ k,rbs p' O k→W.1.size≤k)→FrP (rbs p r) W Y→Bx X Z (rcC O p'.A)→Fr Z (Z+1) Y X→X.1.size=Y.1.size→Q .normal ⟨#[p0,p1,p2,.pointer (some ⟨M,0,none⟩),.pointer (some ⟨Z,0,none⟩),.pointer (some ⟨B,0,none⟩),p6,p7,p8,p9,p10,p11,p12,p13,p14,p15,p16,p17,p18,p19,p20,p21,p22,p23,p24,p25,p26,p27,p28,p29,t 0,t 1,t 2,t 3,t 4],[]⟩ X) :
  Code.wp Tryz.prog (Code.region 6 #[⟨some 30,.load 38 (.tmp 5),38, "l14_rec_take.go:186",#[],none⟩,⟨some 31,.load 52 (.tmp 3),52, "l14_rec_take.go:186",#[],none⟩,⟨some 32,.call ⟨.value (.func 68),#[.tmp 31],#[52]⟩,52, "l14_rec_take.go:186",#[⟨1,.data⟩],none⟩,⟨some 33,.call ⟨.value (.func 67),#[.tmp 30,.tmp 32],#[38,52]⟩,38, "l14_rec_take.go:186",#[⟨0,.data⟩,⟨2,.data⟩,⟨2,.chain⟩],none⟩,⟨some 34,.call ⟨.value (.func 31),#[.tmp 33],#[38]⟩,38, "l14_rec_take.go:186",#[⟨3,.data⟩,⟨3,.chain⟩],none⟩,⟨none,.store 38 (.tmp 4) (.tmp 34),0, "l14_rec_take.go:186",#[⟨4,.data⟩,⟨4,.chain⟩,⟨0,.phase⟩,⟨1,.phase⟩,⟨2,.phase⟩,⟨3,.phase⟩,⟨4,.phase⟩],none⟩] true) Q ⟨#[p0,p1,p2,.pointer (some ⟨M,0,none⟩),.pointer (some ⟨Z,0,none⟩),.pointer (some ⟨B,0,none⟩),p6,p7,p8,p9,p10,p11,p12,p13,p14,p15,p16,p17,p18,p19,p20,p21,p22,p23,p24,p25,p26,p27,p28,p29,v0,v1,v2,v3,v4],[]⟩ W:=by
 refine regionM (by kernel_rfl) 5 3 (by omega) (fun X Y=>FrP (rbs p r) X Y) (fun X Y h=>FrP.of_below h) (fun X Y Z h1 h2=>h1.trans h2) (fun t:Nat→Value=>#[p0,p1,p2,.pointer (some ⟨M,0,none⟩),.pointer (some ⟨Z,0,none⟩),.pointer (some ⟨B,0,none⟩),p6,p7,p8,p9,p10,p11,p12,p13,p14,p15,p16,p17,p18,p19,p20,p21,p22,p23,p24,p25,p26,p27,p28,p29,t 0,t 1,t 2,t 3,t 4]) (fun j=>match j with|0=>v0|1=>v1|2=>v2|3=>v3|_=>v4) (tkReg6G r p m ma mc O W) (fun a X=>∃ (t:Nat→Value) (p':RcP) (Y:World),a=⟨#[p0,p1,p2,.pointer (some ⟨M,0,none⟩),.pointer (some ⟨Z,0,none⟩),.pointer (some ⟨B,0,none⟩),p6,p7,p8,p9,p10,p11,p12,p13,p14,p15,p16,p17,p18,p19,p20,p21,p22,p23,p24,p25,p26,p27,p28,p29,t 0,t 1,t 2,t 3,t 4],[]⟩∧RcAt Y O p'∧(∀ k,rbs p' O k→W.1.size≤k)∧FrP (rbs p r) W Y∧Bx X Z (rcC O p'.A)∧Fr Z (Z+1) Y X∧X.1.size=Y.1.size) (by kernel_rfl) (by kernel_rfl) (by kernel_rfl) ?_ ?_ rfl ?_ ?_ ?_ ?_
 ·intro i v X Y hi1 h hb
  rcases (show i=0∨i=1∨i=2∨i=3∨i=4 by omega) with rfl|rfl|rfl|rfl|rfl
  ·exact h
  ·exact h
  ·obtain ⟨ad',cap',b',e1,e2,e3,e4,e5,e6⟩:=h
   exact ⟨ad',cap',b',e1,e2.grow hb,e3,fun h0=>ltl (e4 h0) hb.size,e5,e6⟩
  ·obtain ⟨A',e1,e2⟩:=h
   exact ⟨A',e1,(e2.below hb (lrf _)).mono (lrf _) hb.size⟩
  ·obtain ⟨p',e1,e2,e3⟩:=h
   exact ⟨p',e1,e2.grow hb,e3⟩
 ·intro i v X Y hi1 hi3 h hb
  rcases (show i=0∨i=1∨i=2∨i=3∨i=4 by omega) with rfl|rfl|rfl|rfl|rfl
  ·exact h
  ·exact h
  ·obtain ⟨ad',cap',b',e1,e2,e3,e4,e5,e6⟩:=h
   exact ⟨ad',cap',b',e1,e2.frP hb (fun h0=>⟨fun e=>by have:=hlt _ e;omega,e4 h0⟩),e3,fun h0=>ltl (e4 h0) hb.size,e5,e6⟩
  ·exact absurd rfl hi3
  ·obtain ⟨p',e1,e2,e3⟩:=h
   exact ⟨p',e1,e2.fr hb (fun k hk e=>by have:=hlt _ e;have:=e3 k hk;omega),e3⟩
 ·intro t X K hb hg1 hK
  have e0:t 0=.agg (rcC r p.A):=hg1 0 (Wt rfl)
  obtain ⟨ad',cap',b',e2,k1,k2,k3,⟨g',rfl⟩,k5⟩:∃ ad' cap' b',t 2=msV m ad' cap'∧SlsAt X ad' b' m.n m.s∧W.1.size≤b'∧(m.n≠0→b'<X.1.size)∧(∃ g,ad'=some ⟨g,0,none⟩)∧m.n≤cap':=hg1 2 (Wt rfl)
  refine Zi rfl rfl ?_
  have HK:=hid hK
  have HC:=hid (hQc X g' 0 cap' hb k5 (k1.isIn (fun h0=>⟨zle _,k3 h0⟩)))
  clear hK hg1 hQc hQ
  simp only [e0,e2]
  go_simp
  go_at_call 67
  refine HC.out.mono ?_
  rintro e Y ⟨A',rfl,h1,h2⟩
  have h:=HK.out _ Y ⟨A',rfl,h1⟩ h2
  simpa [updT,e0,e2] using h
 ·intro i hi1 hi3 t X K hb hg1 hK
  rcases (show i=0∨i=1∨i=2∨i=3∨i=4 by omega) with rfl|rfl|rfl|rfl|rfl
  ·exact Zi rfl rfl (wp_load_mid 38 _ rfl B 0 rfl (rcC r p.A).toList _ (Holds.range (cs:=(rcC r p.A).toList) (hX.frP hb nB).cell) Tryz.underlying38 rfl Tryz.sz38 (hK (.agg (rcC r p.A)) X rfl (br _ _)))
  ·exact Zi rfl rfl (wp_load_mid 52 _ rfl M 0 rfl (msC m ma mc).toList _ (Holds.range (cs:=(msC m ma mc).toList) (hM.frP hb nM).cell) Tryz.underlying52 rfl Tryz.sz52 (hK (.agg #[.int .i64 m.kind,.int .i64 m.from_,.int .i64 m.to,.int .i64 m.bal,.int .i64 m.ix,.int .i64 m.kn,.string m.text,.slice ma m.n mc]) X rfl (br _ _)))
  ·have e1:t 1=.agg #[.int .i64 m.kind,.int .i64 m.from_,.int .i64 m.to,.int .i64 m.bal,.int .i64 m.ix,.int .i64 m.kn,.string m.text,.slice ma m.n mc]:=hg1 1 (Wt rfl)
   refine Zi rfl rfl ?_
   have HK:=hid hK
   have hmX:SlsIn X 0 X.1.size ma m.n m.s:=fun i hi=>by
    obtain ⟨b,off,e1,e2,e3,e4⟩:=hms i hi
    have hbn:¬rbs p r b:=hmN b e3 i hi off e1
    exact ⟨b,off,e1,e2,ltl e3 hb.size,⟨(hb.cell (p:=⟨b,_,none⟩) e3 hbn).trans e4.c0,(hb.cell (p:=⟨b,_,none⟩) e3 hbn).trans e4.c1⟩⟩
   have HC:=hid (mess_copyS m ma mc X 0 X.1.size (lrf _) (by omega) hmX)
   clear hK hg1 hQc hQ
   simp only [e1]
   go_simp
   go_at_call 68
   refine HC.out.mono ?_
   rintro e Y ⟨ad',cap',b',rfl,h1,h2,h3,h4,h5,h6⟩
   have h:=HK.out _ Y ⟨ad',cap',b',rfl,h1,ltr hb.size h2,h3,h5,h6⟩ h4
   simpa [updT,e1] using h
  ·exact absurd rfl hi3
  ·obtain ⟨A',e3,k1⟩:∃ A':RcA,t 3=rcV O A'∧RcIn X 0 X.1.size O A':=hg1 3 (Wt rfl)
   refine Zi rfl rfl ?_
   have HK:=hid hK
   have HC:=hid (Y8 O A' X 0 X.1.size (lrf _) hsm k1)
   clear hK hg1 hQc hQ
   simp only [e3]
   go_simp
   go_at_call 31
   refine HC.out.mono ?_
   rintro e Y ⟨p',rfl,h1,_,_,h2,h3,_⟩
   have h:=HK.out _ Y ⟨p',rfl,h1,fun k hk=>ltr hb.size (h2 k hk)⟩ h3
   simpa [updT,e3] using h
 ·intro t X K hb hg1 hK
  obtain ⟨p',e4,k1,k2⟩:∃ p':RcP,t 4=rcV O p'.A∧RcAt X O p'∧(∀ k,rbs p' O k→W.1.size≤k):=hg1 4 (by omega)
  have hZX:=hZ.frP hb nZ
  exact YQ rfl rfl 38 _ _ rfl Z (rcC O p'.A).toList rfl e4 hZX rfl Tryz.sz38 (by simp [Value.oneCell']) (fun V hv hf hs=>hK _ V ⟨t,p',X,rfl,k1,k2,hb,hv,hf,hs⟩)
 ·rintro a X ⟨t,p',Y,rfl,k1,k2,k3,k4,k5,k6⟩
  exact hQ t p' Y X k1 k2 k3 k4 k5 k6
theorem apGzf0 {P:Prop} (h:P:=by
  have mark:Nat:=0
  have mark2:Nat:=0
  generalize outT r m=O at *
  go_enter Tryz.func17,Tryz.ntmps17
  go_wp2_with (first|((with_reducible show wpList _ _ _ (⟨some 6,_,_,_,_,_⟩::_) _ _);clear mark;go_must ((generalize (((w.alloc (.cells (rcC r A) 38)).alloc (.cells #[.int .i64 m.kind,.int .i64 m.from_,.int .i64 m.to,.int .i64 m.bal,.int .i64 m.ix,.int .i64 m.kn,.string m.text,.slice ma m.n mc] 52)).alloc (.cells (rcL 0 0 false).toArray 38))=W at *);have z0lt:=Z0.out.lt))|((with_reducible show wpList _ _ _ (⟨some 6,Op.load 38 _,_,_,_,_⟩::_) _ _);go_must (refine LD38 (rcC r A).toList Q0.out.cell ?_))|(go_at_call 30;go_must (refine (hV.out W lo hi (ltr hhi HB0.out.size) HF.out (HC.out.below HB0.out hhi)).mono ?_;rintro e w1 ⟨rfl,hb1⟩;have B1:=hid (HB0.out.trans (hb1.mono HB0.out.size));have Q1:=hid (Q0.out.below hb1 Q0.out.lt);have M1:=hid (M0.out.below hb1 M0.out.lt);have Z1:=hid (Z0.out.below hb1 Z0.out.lt);have z1lt:w.1.size+1+1<w1.1.size:=Z1.out.lt;clear hb1 Q0 M0 Z0 HB0))|((with_reducible show wpList _ _ _ (⟨some 10,Op.load 38 _,_,_,_,_⟩::_) _ _);go_must (refine LD38 (rcC r A).toList Q1.out.cell ?_))|(go_at_call 31;go_must (refine (Y8 r A w1 lo hi (ltr hhi B1.out.size) HM.out (HC.out.below B1.out hhi)).mono ?_;rintro e w2 ⟨p,rfl,hat,hws,hrm,hge,hb2,hcp⟩;have B2:=hid (B1.out.trans (hb2.mono B1.out.size));have Q2:=hid (Q1.out.below hb2 Q1.out.lt);have M2:=hid (M1.out.below hb2 M1.out.lt);have Z2:=hid (Z1.out.below hb2 Z1.out.lt);have HG2:Hid (RcG w2 r p):=hid ⟨hat,hrm⟩;have HWS2:=hid hws;have HCP:=hid hcp;have HGE:=hid (fun k hk=>ltl z1lt (hge k hk));have z2lt:=Z2.out.lt;have z12:=hb2.size;clear hat hrm hws hcp hge hb2 Q1 M1 Z1 B1))|((with_reducible show wpList _ _ _ (⟨none,Op.store 38 (Operand.tmp 5) _,_,_,_,_⟩::_) _ _);go_must (refine Zd rfl 38 _ _ rfl w2.1.size (rcC r p.A).toList rfl rfl (Bx.new w2 (rcL 0 0 false).toArray 38) rfl Tryz.sz38 (by simp [Value.oneCell']) ?_;intro V hr hfr hsv;have HBV:=hid hr;have HFV:=hid (FrP.of_fr (P:=fun q=>q=w2.1.size) hfr (fun k h1 h2=>by omega));clear hr hfr hsv;have hb3:Below w2.1.size w2 V:=(Zb w2 _).trans (HFV.out.below (B:=w2.1.size) (fun q hq e=>by omega) (by simp));have B3:=hid (B2.out.trans (hb3.mono B2.out.size));have Q3:=hid (Q2.out.below hb3 Q2.out.lt);have M3:=hid (M2.out.below hb3 M2.out.lt);have Z3:=hid (Z2.out.below hb3 Z2.out.lt);have HLT:=hid HG2.out.at_.lt;have HG3:=hid (HG2.out.grow hb3);have HWS3:=hid (HWS2.out.grow hb3 HG2.out.at_.lt);have z3:=hb3.size;clear hb3 HFV Q2 M2 Z2 HG2 B2 HWS2))|((with_reducible show wpList _ _ _ (⟨some 12,_,_,_,_,_⟩::_) _ _);clear mark2;go_must (obtain ⟨q0,q1,q2,q3,q4,q5,q6,q7,q8,q9,q10,q11,q12,q13,q14,q15,q16,q17⟩:=Ze Q3.out.cell;have qf:=Q3.out.free;have qlt:=Q3.out.lt;have zlt:=Z3.out.lt;have xlt:=HBV.out.lt;obtain ⟨m0,m1,m2,m3,m4,m5,m6,m7⟩:=Zy M3.out.cell;have mlt:=M3.out.lt;clear q3 q4 q5 q6 q7 q8 q9 q10 q11 q12 q13 q14 q15 q16 q17 m0 m1 m3 m4 m5 m6 m7;rw [HUP.out] at q2))|((with_reducible show wpList _ _ _ (⟨some 16,Op.load 52 _,_,_,_,_⟩::_) _ _);go_must (refine ZF ?hw 52 _ rfl (w.1.size+1) 0 rfl (msC m ma mc).toList _ (Holds.range (cs:=(msC m ma mc).toList) M3.out.cell) Tryz.underlying52 rfl Tryz.sz52 ?_;(case hw=>(go_simp;done))))|(go_at_call 66;go_must (refine (MOK.out V B3.out).mono ?_;rintro e w4 ⟨rfl,hb4⟩;have X4:=hid (HBV.out.below hb4 HBV.out.lt);have B4:=hid (B3.out.trans (hb4.mono B3.out.size));have Q4:=hid (Q3.out.below hb4 Q3.out.lt);have M4:=hid (M3.out.below hb4 M3.out.lt);have Z4:=hid (Z3.out.below hb4 Z3.out.lt);have HG4:=hid (HG3.out.grow hb4);have HWS4:=hid (HWS3.out.grow hb4 HG3.out.at_.lt);have z4:=hb4.size;clear hb4 Q3 M3 Z3 HG3 HWS3 B3 q0 q1 q2 m2 qf qlt zlt xlt mlt;have xlt:=X4.out.lt;have zlt:=Z4.out.lt;obtain ⟨q0,q1,q2,q3,q4,q5,q6,q7,q8,q9,q10,q11,q12,q13,q14,q15,q16,q17⟩:=Ze Q4.out.cell;obtain ⟨m0,m1,m2,m3,m4,m5,m6,m7⟩:=Zy M4.out.cell;have qlt:=Q4.out.lt;have mlt:=M4.out.lt;clear q1 q2 q3 q4 q5 q6 q7 q8 q9 q10 q11 q12 q13 q14 q15 q16 q17 m0 m1 m3 m4 m5 m6 m7))|((with_reducible show wpList _ _ _ (⟨some 29,Op.load 38 _,_,_,_,_⟩::_) _ _);go_must (refine LD38 (rcC r p.A).toList X4.out.cell ?_))|((with_reducible show wpList _ _ _ (⟨none,Op.store 38 (Operand.tmp 4) _,_,_,_,_⟩::_) _ _);go_must (refine Zd rfl 38 _ _ rfl (w.1.size+1+1) (rcC r p.A).toList rfl rfl Z4.out rfl Tryz.sz38 (by simp [Value.oneCell']) ?_;intro Vz hr hfr hsv;have HBVz:=hid hr;have HFVz:=hid (FrP.of_fr (P:=fun q=>q=(w.1.size+1+1)) hfr (fun k h1 h2=>by omega));clear hr hfr hsv)))
  refine RZ (rcC r p.A).toList HBVz.out.cell ?_
  rw [OUT.out]
  have hzz:=HFVz.out.size
  have ga:=(HG4.out.fr HFVz.out (fun k hk e=>by have:=HGE.out k hk;omega)).at_
  exact ⟨p.A,rfl,ga.isIn (fun k hk=>⟨by have:=HGE.out k hk;omega,ga.lt k hk⟩),B4.out.trans (HFVz.out.below (B:=w.1.size) (fun k hk e=>by omega) (by omega))⟩):P:=h
set_option maxRecDepth 100000 in
theorem specTake_any (r:Rc) (A:RcA) (m:Ms) (ma:Option Addr) (mc:Nat) (w:World) (lo hi:Nat) (hhi:hi≤w.1.size) (hm:ZW r) (hf:ZR r) (hc:RcIn w lo hi r A) (hmf:Ji m) (lo2 hi2:Nat) (hhi2:hi2≤w.1.size) (hms:SlsIn w lo2 hi2 ma m.n m.s) :
  Calls Tryz.prog 17 #[rcV r A,msV m ma mc] w fun e w'=>∃ A',e=.returned (rcV (outT r m) A')∧RcIn w' w.1.size w'.1.size (outT r m) A'∧Below w.1.size w w':=by
 have HM:=hid hm
 have HF:=hid hf
 have HC:=hid hc
 have HMS:=hid hms
 have hV:=hid (Uv r A)
 have MOK:=hid (show ∀ V,Below w.1.size w V→Calls Tryz.prog 66 #[msV m ma mc,.int .i64 r.of] V fun e w'=>e=.returned (.bool (msB m r.of))∧Below V.1.size V w' from fun V hb=>Xf m r.of ma mc V lo2 hi2 (ltr hhi2 hb.size) hmf (hms.below hb hhi2))
 have hB0:Below w.1.size w (((w.alloc (.cells (rcC r A) 38)).alloc (.cells #[.int .i64 m.kind,.int .i64 m.from_,.int .i64 m.to,.int .i64 m.bal,.int .i64 m.ix,.int .i64 m.kn,.string m.text,.slice ma m.n mc] 52)).alloc (.cells (rcL 0 0 false).toArray 38)):=((Zb _ _).alloc (by simp) _).alloc (by simp;omega) _
 have hN:=Bx.new3 w (rcC r A) #[.int .i64 m.kind,.int .i64 m.from_,.int .i64 m.to,.int .i64 m.bal,.int .i64 m.ix,.int .i64 m.kn,.string m.text,.slice ma m.n mc] (rcL 0 0 false).toArray 38 52 38
 have Q0:=hid hN.1
 have M0:=hid hN.2.1
 have Z0:=hid hN.2.2
 have HB0:=hid hB0
 clear hm hf hc hms hmf hN hB0
 obtain ⟨bv,hbv⟩:∃ b,rcB r=b:=⟨_,rfl⟩
 rw [hbv] at hV
 have HBV0:=hid hbv
 clear hbv
 cases bv
 ·skip
  have OUT:=hid (show outT r m=rc0 0 0 false by simp [outT,HBV0.out])
  have mark:Nat:=0
  generalize outT r m=O at *
  go_enter Tryz.func17,Tryz.ntmps17
  go_wp2_with (first|((with_reducible show wpList _ _ _ (⟨some 6,_,_,_,_,_⟩::_) _ _);clear mark;go_must ((generalize (((w.alloc (.cells (rcC r A) 38)).alloc (.cells #[.int .i64 m.kind,.int .i64 m.from_,.int .i64 m.to,.int .i64 m.bal,.int .i64 m.ix,.int .i64 m.kn,.string m.text,.slice ma m.n mc] 52)).alloc (.cells (rcL 0 0 false).toArray 38))=W at *);have z0lt:=Z0.out.lt))|((with_reducible show wpList _ _ _ (⟨some 6,Op.load 38 _,_,_,_,_⟩::_) _ _);go_must (refine LD38 (rcC r A).toList Q0.out.cell ?_))|(go_at_call 30;go_must (refine (hV.out W lo hi (ltr hhi HB0.out.size) HF.out (HC.out.below HB0.out hhi)).mono ?_;rintro e w1 ⟨rfl,hb1⟩;have B1:=hid (HB0.out.trans (hb1.mono HB0.out.size));have Q1:=hid (Q0.out.below hb1 Q0.out.lt);have M1:=hid (M0.out.below hb1 M0.out.lt);have Z1:=hid (Z0.out.below hb1 Z0.out.lt);have z1lt:w.1.size+1+1<w1.1.size:=Z1.out.lt;clear hb1 Q0 M0 Z0 HB0))|((with_reducible show wpList _ _ _ (⟨none,Op.store 38 (Operand.tmp 4) _,_,_,_,_⟩::_) _ _);go_must (refine Zd rfl 38 _ _ rfl (w.1.size+1+1) (rcL 0 0 false) rfl rfl Z1.out rfl Tryz.sz38 (by simp [Value.oneCell']) ?_;intro Vz hr hfr hsv;have HBVz:=hid hr;have HFVz:=hid (FrP.of_fr (P:=fun q=>q=(w.1.size+1+1)) hfr (fun k h1 h2=>by omega));clear hr hfr hsv)))
  refine bodyPost_ret (v:=rcZ 0 0 false) (Zv rfl _ _ (w.1.size+1+1) (rcL 0 0 false) _ rfl (Holds.range (cs:=(rcL 0 0 false)) HBVz.out.cell) Tryz.underlying38 rfl Tryz.sz38) rfl ?_
  rw [OUT.out]
  exact ⟨pN.A,rfl,(RcAt.none Vz 0 0 false).isIn (fun k ⟨j,_,hk⟩=>absurd hk (KT 0 0 false j k)),B1.out.trans (HFVz.out.below (B:=w.1.size) (fun k hk e=>by omega) (by omega))⟩
 ·cases hup:r.up
  ·have HUP:=hid hup
   clear hup
   have OUT:=hid (show outT r m=r by unfold outT;rw [if_pos HBV0.out,if_neg (by unfold takB;rw [HUP.out];simp)])
   have mark:Nat:=0
   have mark2:Nat:=0
   generalize outT r m=O at *
   go_enter Tryz.func17,Tryz.ntmps17
   go_wp2_with (first|((with_reducible show wpList _ _ _ (⟨some 6,_,_,_,_,_⟩::_) _ _);clear mark;go_must ((generalize (((w.alloc (.cells (rcC r A) 38)).alloc (.cells #[.int .i64 m.kind,.int .i64 m.from_,.int .i64 m.to,.int .i64 m.bal,.int .i64 m.ix,.int .i64 m.kn,.string m.text,.slice ma m.n mc] 52)).alloc (.cells (rcL 0 0 false).toArray 38))=W at *);have z0lt:=Z0.out.lt))|((with_reducible show wpList _ _ _ (⟨some 6,Op.load 38 _,_,_,_,_⟩::_) _ _);go_must (refine LD38 (rcC r A).toList Q0.out.cell ?_))|(go_at_call 30;go_must (refine (hV.out W lo hi (ltr hhi HB0.out.size) HF.out (HC.out.below HB0.out hhi)).mono ?_;rintro e w1 ⟨rfl,hb1⟩;have B1:=hid (HB0.out.trans (hb1.mono HB0.out.size));have Q1:=hid (Q0.out.below hb1 Q0.out.lt);have M1:=hid (M0.out.below hb1 M0.out.lt);have Z1:=hid (Z0.out.below hb1 Z0.out.lt);have z1lt:w.1.size+1+1<w1.1.size:=Z1.out.lt;clear hb1 Q0 M0 Z0 HB0))|((with_reducible show wpList _ _ _ (⟨some 10,Op.load 38 _,_,_,_,_⟩::_) _ _);go_must (refine LD38 (rcC r A).toList Q1.out.cell ?_))|(go_at_call 31;go_must (refine (Y8 r A w1 lo hi (ltr hhi B1.out.size) HM.out (HC.out.below B1.out hhi)).mono ?_;rintro e w2 ⟨p,rfl,hat,hws,hrm,hge,hb2,hcp⟩;have B2:=hid (B1.out.trans (hb2.mono B1.out.size));have Q2:=hid (Q1.out.below hb2 Q1.out.lt);have M2:=hid (M1.out.below hb2 M1.out.lt);have Z2:=hid (Z1.out.below hb2 Z1.out.lt);have HG2:Hid (RcG w2 r p):=hid ⟨hat,hrm⟩;have HWS2:=hid hws;have HCP:=hid hcp;have HGE:=hid (fun k hk=>ltl z1lt (hge k hk));have z2lt:=Z2.out.lt;have z12:=hb2.size;clear hat hrm hws hcp hge hb2 Q1 M1 Z1 B1))|((with_reducible show wpList _ _ _ (⟨none,Op.store 38 (Operand.tmp 5) _,_,_,_,_⟩::_) _ _);go_must (refine Zd rfl 38 _ _ rfl w2.1.size (rcC r p.A).toList rfl rfl (Bx.new w2 (rcL 0 0 false).toArray 38) rfl Tryz.sz38 (by simp [Value.oneCell']) ?_;intro V hr hfr hsv;have HBV:=hid hr;have HFV:=hid (FrP.of_fr (P:=fun q=>q=w2.1.size) hfr (fun k h1 h2=>by omega));clear hr hfr hsv;have hb3:Below w2.1.size w2 V:=(Zb w2 _).trans (HFV.out.below (B:=w2.1.size) (fun q hq e=>by omega) (by simp));have B3:=hid (B2.out.trans (hb3.mono B2.out.size));have Q3:=hid (Q2.out.below hb3 Q2.out.lt);have M3:=hid (M2.out.below hb3 M2.out.lt);have Z3:=hid (Z2.out.below hb3 Z2.out.lt);have HLT:=hid HG2.out.at_.lt;have HG3:=hid (HG2.out.grow hb3);have HWS3:=hid (HWS2.out.grow hb3 HG2.out.at_.lt);have z3:=hb3.size;clear hb3 HFV Q2 M2 Z2 HG2 B2 HWS2))|((with_reducible show wpList _ _ _ (⟨some 12,_,_,_,_,_⟩::_) _ _);clear mark2;go_must (obtain ⟨q0,q1,q2,q3,q4,q5,q6,q7,q8,q9,q10,q11,q12,q13,q14,q15,q16,q17⟩:=Ze Q3.out.cell;have qf:=Q3.out.free;have qlt:=Q3.out.lt;have zlt:=Z3.out.lt;have xlt:=HBV.out.lt;obtain ⟨m0,m1,m2,m3,m4,m5,m6,m7⟩:=Zy M3.out.cell;have mlt:=M3.out.lt;clear q3 q4 q5 q6 q7 q8 q9 q10 q11 q12 q13 q14 q15 q16 q17 m0 m1 m3 m4 m5 m6 m7;rw [HUP.out] at q2))|((with_reducible show wpList _ _ _ (⟨some 29,Op.load 38 _,_,_,_,_⟩::_) _ _);go_must (refine LD38 (rcC r p.A).toList HBV.out.cell ?_))|((with_reducible show wpList _ _ _ (⟨none,Op.store 38 (Operand.tmp 4) _,_,_,_,_⟩::_) _ _);go_must (refine Zd rfl 38 _ _ rfl (w.1.size+1+1) (rcC r p.A).toList rfl rfl Z3.out rfl Tryz.sz38 (by simp [Value.oneCell']) ?_;intro Vz hr hfr hsv;have HBVz:=hid hr;have HFVz:=hid (FrP.of_fr (P:=fun q=>q=(w.1.size+1+1)) hfr (fun k h1 h2=>by omega));clear hr hfr hsv)))
   refine RZ (rcC r p.A).toList HBVz.out.cell ?_
   rw [OUT.out]
   have hzz:=HFVz.out.size
   have ga:=(HG3.out.fr HFVz.out (fun k hk e=>by have:=HGE.out k hk;omega)).at_
   exact ⟨p.A,rfl,ga.isIn (fun k hk=>⟨by have:=HGE.out k hk;omega,ga.lt k hk⟩),B3.out.trans (HFVz.out.below (B:=w.1.size) (fun k hk e=>by omega) (by omega))⟩
  ·have HUP:=hid hup
   clear hup
   cases hmb:msB m r.of
   ·skip
    have OUT:=hid (show outT r m=r by unfold outT;rw [if_pos HBV0.out,if_neg (by unfold takB;rw [hmb];simp)])
    rw [hmb] at MOK
    clear hmb
    exact apGzf0
   ·by_cases ht:m.to=r.num
    ·skip
     have OUT:=hid (show outT r m=takR r m by unfold outT;rw [if_pos HBV0.out,if_pos (by unfold takB;rw [HUP.out,hmb];simp [ht])])
     have HMB:=hid hmb
     rw [hmb] at MOK
     have HVD:=hid (VdR.of HBV0.out)
     have HSM:=hid (takR_lim HVD.out hmb).small
     clear hmb
     have htz:(m.to==r.num)=true:=by simp [ht]
     have htz2:(m.to != r.num)=false:=by simp [bne,htz]
     clear ht
     have mark:Nat:=0
     have mark2:Nat:=0
     generalize outT r m=O at *
     go_enter Tryz.func17,Tryz.ntmps17
     go_wp2_with (first|((with_reducible show wpList _ _ _ (⟨some 6,_,_,_,_,_⟩::_) _ _);clear mark;go_must ((generalize (((w.alloc (.cells (rcC r A) 38)).alloc (.cells #[.int .i64 m.kind,.int .i64 m.from_,.int .i64 m.to,.int .i64 m.bal,.int .i64 m.ix,.int .i64 m.kn,.string m.text,.slice ma m.n mc] 52)).alloc (.cells (rcL 0 0 false).toArray 38))=W at *);have z0lt:=Z0.out.lt))|((with_reducible show wpList _ _ _ (⟨some 6,Op.load 38 _,_,_,_,_⟩::_) _ _);go_must (refine LD38 (rcC r A).toList Q0.out.cell ?_))|(go_at_call 30;go_must (refine (hV.out W lo hi (ltr hhi HB0.out.size) HF.out (HC.out.below HB0.out hhi)).mono ?_;rintro e w1 ⟨rfl,hb1⟩;have B1:=hid (HB0.out.trans (hb1.mono HB0.out.size));have Q1:=hid (Q0.out.below hb1 Q0.out.lt);have M1:=hid (M0.out.below hb1 M0.out.lt);have Z1:=hid (Z0.out.below hb1 Z0.out.lt);have z1lt:w.1.size+1+1<w1.1.size:=Z1.out.lt;clear hb1 Q0 M0 Z0 HB0))|((with_reducible show wpList _ _ _ (⟨some 10,Op.load 38 _,_,_,_,_⟩::_) _ _);go_must (refine LD38 (rcC r A).toList Q1.out.cell ?_))|(go_at_call 31;go_must (refine (Y8 r A w1 lo hi (ltr hhi B1.out.size) HM.out (HC.out.below B1.out hhi)).mono ?_;rintro e w2 ⟨p,rfl,hat,hws,hrm,hge,hb2,hcp⟩;have B2:=hid (B1.out.trans (hb2.mono B1.out.size));have Q2:=hid (Q1.out.below hb2 Q1.out.lt);have M2:=hid (M1.out.below hb2 M1.out.lt);have Z2:=hid (Z1.out.below hb2 Z1.out.lt);have HG2:Hid (RcG w2 r p):=hid ⟨hat,hrm⟩;have HWS2:=hid hws;have HCP:=hid hcp;have HGE:=hid (fun k hk=>ltl z1lt (hge k hk));have z2lt:=Z2.out.lt;have z12:=hb2.size;clear hat hrm hws hcp hge hb2 Q1 M1 Z1 B1))|((with_reducible show wpList _ _ _ (⟨none,Op.store 38 (Operand.tmp 5) _,_,_,_,_⟩::_) _ _);go_must (refine Zd rfl 38 _ _ rfl w2.1.size (rcC r p.A).toList rfl rfl (Bx.new w2 (rcL 0 0 false).toArray 38) rfl Tryz.sz38 (by simp [Value.oneCell']) ?_;intro V hr hfr hsv;have HBV:=hid hr;have HFV:=hid (FrP.of_fr (P:=fun q=>q=w2.1.size) hfr (fun k h1 h2=>by omega));clear hr hfr hsv;have hb3:Below w2.1.size w2 V:=(Zb w2 _).trans (HFV.out.below (B:=w2.1.size) (fun q hq e=>by omega) (by simp));have B3:=hid (B2.out.trans (hb3.mono B2.out.size));have Q3:=hid (Q2.out.below hb3 Q2.out.lt);have M3:=hid (M2.out.below hb3 M2.out.lt);have Z3:=hid (Z2.out.below hb3 Z2.out.lt);have HLT:=hid HG2.out.at_.lt;have HG3:=hid (HG2.out.grow hb3);have HWS3:=hid (HWS2.out.grow hb3 HG2.out.at_.lt);have z3:=hb3.size;clear hb3 HFV Q2 M2 Z2 HG2 B2 HWS2))|((with_reducible show wpList _ _ _ (⟨some 12,_,_,_,_,_⟩::_) _ _);clear mark2;go_must (obtain ⟨q0,q1,q2,q3,q4,q5,q6,q7,q8,q9,q10,q11,q12,q13,q14,q15,q16,q17⟩:=Ze Q3.out.cell;have qf:=Q3.out.free;have qlt:=Q3.out.lt;have zlt:=Z3.out.lt;have xlt:=HBV.out.lt;obtain ⟨m0,m1,m2,m3,m4,m5,m6,m7⟩:=Zy M3.out.cell;have mlt:=M3.out.lt;clear q3 q4 q5 q6 q7 q8 q9 q10 q11 q12 q13 q14 q15 q16 q17 m0 m1 m3 m4 m5 m6 m7;rw [HUP.out] at q2))|((with_reducible show wpList _ _ _ (⟨some 16,Op.load 52 _,_,_,_,_⟩::_) _ _);go_must (refine ZF ?hw 52 _ rfl (w.1.size+1) 0 rfl (msC m ma mc).toList _ (Holds.range (cs:=(msC m ma mc).toList) M3.out.cell) Tryz.underlying52 rfl Tryz.sz52 ?_;(case hw=>(go_simp;done))))|(go_at_call 66;go_must (refine (MOK.out V B3.out).mono ?_;rintro e w4 ⟨rfl,hb4⟩;have X4:=hid (HBV.out.below hb4 HBV.out.lt);have B4:=hid (B3.out.trans (hb4.mono B3.out.size));have Q4:=hid (Q3.out.below hb4 Q3.out.lt);have M4:=hid (M3.out.below hb4 M3.out.lt);have Z4:=hid (Z3.out.below hb4 Z3.out.lt);have HG4:=hid (HG3.out.grow hb4);have HWS4:=hid (HWS3.out.grow hb4 HG3.out.at_.lt);have z4:=hb4.size;clear hb4 Q3 M3 Z3 HG3 HWS3 B3 q0 q1 q2 m2 qf qlt zlt xlt mlt;have xlt:=X4.out.lt;have zlt:=Z4.out.lt;obtain ⟨q0,q1,q2,q3,q4,q5,q6,q7,q8,q9,q10,q11,q12,q13,q14,q15,q16,q17⟩:=Ze Q4.out.cell;obtain ⟨m0,m1,m2,m3,m4,m5,m6,m7⟩:=Zy M4.out.cell;have qlt:=Q4.out.lt;have mlt:=M4.out.lt;clear q1 q2 q3 q4 q5 q6 q7 q8 q9 q10 q11 q12 q13 q14 q15 q16 q17 m0 m1 m3 m4 m5 m6 m7)))
     clear q0 m2 qlt mlt
     refine tkReg6 _ _ _ _ _ _ _ _ _ _ _ _ _ _ _ _ _ _ _ _ _ _ _ _ _ _ _ _ _ _ _ _ w2.1.size (w.1.size+1) (w.1.size+1+1) r p m ma mc (takR r m) w4 X4.out M4.out Z4.out (fun e=>by have:=HGE.out _ e;omega) (fun e=>by have:=HLT.out _ e;omega) (fun e=>by have:=HGE.out _ e;omega) (fun k hk=>by have:=HLT.out k hk;omega) (by have:=(J0 HMB.out).1.2.1;omega) HSM.out ((HMS.out.below B4.out hhi2).mono (zle _) (by omega)) (fun b hb i hi off e k=>by have:=HGE.out b k;obtain ⟨b',off',e1,_,e3,_⟩:=HMS.out i hi;rw [e] at e1;cases e1;omega) (fun X mb mo mc' hb h1 h2=>Uw r p m mb mo mc' r.of X (HG4.out.grow hb) (HWS4.out.grow hb HG4.out.at_.lt) HCP.out HVD.out HMB.out h1 h2) _ ?_
     intro t9 p' Y X hat hge hfr hbx hfz hsz
     have HBVz:=hid hbx
     have HFVz:=hid (FrP.of_fr (P:=fun q=>q=(w.1.size+1+1)) hfz (fun k h1 h2=>by omega))
     have HA:=hid hat
     have HGP:=hid hge
     have HFR:=hid hfr
     clear hat hge hfr hbx hfz
     go_wp2
     refine RZ (rcC (takR r m) p'.A).toList HBVz.out.cell ?_
     rw [OUT.out]
     have ga:=HA.out.fr HFVz.out (fun k hk e=>by have:=HGP.out k hk;omega)
     exact ⟨p'.A,rfl,ga.isIn (fun k hk=>⟨by have:=HGP.out k hk;omega,ga.lt k hk⟩),B4.out.trans ((HFR.out.below (B:=w.1.size) (fun k hk e=>by have:=HGE.out k e;omega) (by omega)).trans (HFVz.out.below (B:=w.1.size) (fun k hk e=>by omega) (by have:=HFR.out.size;omega)))⟩
    ·skip
     have OUT:=hid (show outT r m=r by unfold outT;rw [if_pos HBV0.out,if_neg (by unfold takB;simp [ht])])
     rw [hmb] at MOK
     clear hmb
     have htz:(m.to==r.num)=false:=by simp;exact ht
     have htz2:(m.to != r.num)=true:=by simp [bne,htz]
     clear ht
     exact apGzf0
abbrev dskZ:Array Value:=#[.pointer none,.int .i64 0,.int .i64 0,.int .i64 0,.int .i64 0,.int .i64 0,.int .i64 0,.string ⟨#[]⟩,.slice none 0 0,.nilFunc]
theorem holds10 {W:World} {B:Nat} {v0 v1 v2 v3 v4 v5 v6 v7 v8 v9:Value} (h:Holds W B #[v0,v1,v2,v3,v4,v5,v6,v7,v8,v9]):W.cell? ⟨B,0,none⟩=some v0∧W.cell? ⟨B,1,none⟩=some v1∧W.cell? ⟨B,2,none⟩=some v2∧W.cell? ⟨B,3,none⟩=some v3∧W.cell? ⟨B,4,none⟩=some v4∧W.cell? ⟨B,5,none⟩=some v5∧W.cell? ⟨B,6,none⟩=some v6∧W.cell? ⟨B,7,none⟩=some v7∧W.cell? ⟨B,8,none⟩=some v8∧W.cell? ⟨B,9,none⟩=some v9:=
 ⟨h 0,h 1,h 2,h 3,h 4,h 5,h 6,h 7,h 8,h 9⟩
def takReg1G (B _M:Nat) (m:Ms) (ma:Option Addr) (mc:Nat) (W:World) (i:Nat) (v:Value) (X:World):Prop:=
 match i with
 | 0=>v=.pointer (some ⟨B,0,none⟩)
 | 1=>v=.agg #[.int .i64 m.kind,.int .i64 m.from_,.int .i64 m.to,.int .i64 m.bal,.int .i64 m.ix,.int .i64 m.kn,.string m.text,.slice ma m.n mc]
 | 2=>v=.pointer (some ⟨B,0,none⟩)
 | 3=>∃ qh,v=.func (.func 150) #[] #[.pointer (some ⟨qh,0,none⟩)]∧W.1.size≤qh∧qh<X.1.size∧X.cell? ⟨qh,0,none⟩=some (.pointer (some ⟨B,0,none⟩))
 | 4=>∃ qh,v=.agg #[.pointer (some ⟨B,0,none⟩),.int .i64 m.kind,.int .i64 m.from_,.int .i64 m.to,.int .i64 m.bal,.int .i64 m.ix,.int .i64 m.kn,.string m.text,.slice ma m.n mc,.func (.func 150) #[] #[.pointer (some ⟨qh,0,none⟩)]]∧W.1.size≤qh∧qh<X.1.size∧X.cell? ⟨qh,0,none⟩=some (.pointer (some ⟨B,0,none⟩))
 | 5=>∃ D,v=.pointer (some ⟨D,0,none⟩)∧W.1.size≤D∧D<X.1.size∧Bx X D dskZ
 | _=>True
set_option maxRecDepth 100000 in
theorem Xm (p1 p2 p5 p11 p12 p13 p14 p15 p16 p17 p18 p19 p20 p21 p22 p23 p24 p25:Value) (w0 w1 w2 w3 w4 w5:Value) (B M:Nat) (m:Ms) (ma:Option Addr) (mc:Nat) (W:World) (hM:Bx W M #[.int .i64 m.kind,.int .i64 m.from_,.int .i64 m.to,.int .i64 m.bal,.int .i64 m.ix,.int .i64 m.kn,.string m.text,.slice ma m.n mc]) (Q:Exit→Act→World→Prop) (hQ:∀ (t:Nat→Value) (_v3:Value) X,(∃ D qh,W.1.size≤D∧W.1.size≤qh∧D≠qh∧t 5=.pointer (some ⟨D,0,none⟩)∧qh<X.1.size∧X.cell? ⟨qh,0,none⟩=some (.pointer (some ⟨B,0,none⟩))∧Bx X D (dsC B qh m ma mc)∧Below W.1.size W X)→Q .normal ⟨#[.pointer (some ⟨B,0,none⟩),p1,p2,.pointer (some ⟨M,0,none⟩),t 5,p5,t 0,t 1,t 2,t 3,t 4,p11,p12,p13,p14,p15,p16,p17,p18,p19,p20,p21,p22,p23,p24,p25],[]⟩ X) :
  Code.wp Tryz.prog (Code.region 1 #[⟨some 6,.move (.tmp 0),81, "l14_rec_take.go:41",#[],none⟩,⟨some 7,.load 52 (.tmp 3),52, "l14_rec_take.go:41",#[],none⟩,⟨some 8,.move (.tmp 0),81, "l14_rec_take.go:41",#[],none⟩,⟨some 9,.call ⟨.value (.func 117),#[.tmp 8],#[81]⟩,131, "l14_rec_take.go:41",#[⟨2,.data⟩],none⟩,⟨some 10,.build 134 #[(0,.tmp 6),(1,.tmp 7),(2,.tmp 9)],134, "l14_rec_take.go:41",#[⟨0,.data⟩,⟨1,.data⟩,⟨3,.data⟩],none⟩,⟨some 4,.alloc 134,0, "l14_rec_take.go:41",#[],none⟩,⟨none,.store 134 (.tmp 4) (.tmp 10),0, "l14_rec_take.go:41",#[⟨5,.data⟩,⟨4,.data⟩,⟨3,.chain⟩,⟨0,.phase⟩,⟨1,.phase⟩,⟨2,.phase⟩,⟨3,.phase⟩,⟨4,.phase⟩,⟨5,.phase⟩],none⟩] true) Q ⟨#[.pointer (some ⟨B,0,none⟩),p1,p2,.pointer (some ⟨M,0,none⟩),w5,p5,w0,w1,w2,w3,w4,p11,p12,p13,p14,p15,p16,p17,p18,p19,p20,p21,p22,p23,p24,p25],[]⟩ W:=by
 refine ZL (by kernel_rfl) 6 (fun t:Nat→Value=>#[.pointer (some ⟨B,0,none⟩),p1,p2,.pointer (some ⟨M,0,none⟩),t 5,p5,t 0,t 1,t 2,t 3,t 4,p11,p12,p13,p14,p15,p16,p17,p18,p19,p20,p21,p22,p23,p24,p25]) (fun i=>match i with|0=>w0|1=>w1|2=>w2|3=>w3|4=>w4|_=>w5) (takReg1G B M m ma mc W) (fun a X=>∃ (t:Nat→Value) (v3:Value),a=⟨#[.pointer (some ⟨B,0,none⟩),p1,p2,.pointer (some ⟨M,0,none⟩),t 5,p5,t 0,t 1,t 2,t 3,t 4,p11,p12,p13,p14,p15,p16,p17,p18,p19,p20,p21,p22,p23,p24,p25],[]⟩∧(∃ D qh,W.1.size≤D∧W.1.size≤qh∧D≠qh∧t 5=.pointer (some ⟨D,0,none⟩)∧qh<X.1.size∧X.cell? ⟨qh,0,none⟩=some (.pointer (some ⟨B,0,none⟩))∧Bx X D (dsC B qh m ma mc)∧Below W.1.size W X)) (by kernel_rfl) (by kernel_rfl) (by kernel_rfl) ?_ rfl ?_ ?_ ?_
 ·intro i v X Y hi h hb
  rcases (show i=0∨i=1∨i=2∨i=3∨i=4∨i=5 by omega) with rfl|rfl|rfl|rfl|rfl|rfl
  ·exact h
  ·exact h
  ·exact h
  ·obtain ⟨qh,e1,e2,e3,e4⟩:=h
   exact ⟨qh,e1,e2,ltl e3 hb.size,(hb.cell (p:=⟨qh,0,none⟩) e3).trans e4⟩
  ·obtain ⟨qh,e1,e2,e3,e4⟩:=h
   exact ⟨qh,e1,e2,ltl e3 hb.size,(hb.cell (p:=⟨qh,0,none⟩) e3).trans e4⟩
  ·obtain ⟨D,e1,e2,e3,e4⟩:=h
   exact ⟨D,e1,e2,ltl e3 hb.size,e4.below hb e3⟩
 ·intro i hi t X K hb hg hK
  rcases (show i=0∨i=1∨i=2∨i=3∨i=4∨i=5 by omega) with rfl|rfl|rfl|rfl|rfl|rfl
  ·exact sg
  ·have h:=hK _ X rfl (br _ _)
   have HK:=hid h
   have m0:=(hb.cell (p:=⟨M,0,none⟩) hM.lt).trans (hM.cell 0)
   have m1:=(hb.cell (p:=⟨M,1,none⟩) hM.lt).trans (hM.cell 1)
   have m2:=(hb.cell (p:=⟨M,2,none⟩) hM.lt).trans (hM.cell 2)
   have m3:=(hb.cell (p:=⟨M,3,none⟩) hM.lt).trans (hM.cell 3)
   have m4:=(hb.cell (p:=⟨M,4,none⟩) hM.lt).trans (hM.cell 4)
   have m5:=(hb.cell (p:=⟨M,5,none⟩) hM.lt).trans (hM.cell 5)
   have m6:=(hb.cell (p:=⟨M,6,none⟩) hM.lt).trans (hM.cell 6)
   have m7:=(hb.cell (p:=⟨M,7,none⟩) hM.lt).trans (hM.cell 7)
   refine Zi rfl rfl ?_
   clear hK hg h
   go_simp
   simpa [updT] using HK.out
  ·exact sg
  ·have e2:t 2=.pointer (some ⟨B,0,none⟩):=hg 2 (Wt rfl)
   have e2:t 2=.pointer (some ⟨B,0,none⟩):=hg 2 (Wt rfl)
   refine Zi rfl rfl ?_
   have HK:=hid hK
   clear hK hg
   simp only [e2]
   go_simp
   go_at_call 117
   refine (holding_do B X).mono ?_
   rintro e Y ⟨qh,rfl,h1,h2,h3,h4⟩
   have h:=HK.out _ Y ⟨qh,rfl,by have:=hb.size;omega,h2,h3⟩ h4
   simpa [updT,e2] using h
  ·have e0:t 0=.pointer (some ⟨B,0,none⟩):=hg 0 (Wt rfl)
   have e1:t 1=.agg #[.int .i64 m.kind,.int .i64 m.from_,.int .i64 m.to,.int .i64 m.bal,.int .i64 m.ix,.int .i64 m.kn,.string m.text,.slice ma m.n mc]:=hg 1 (Wt rfl)
   have e0:t 0=.pointer (some ⟨B,0,none⟩):=hg 0 (Wt rfl)
   have e1:t 1=.agg #[.int .i64 m.kind,.int .i64 m.from_,.int .i64 m.to,.int .i64 m.bal,.int .i64 m.ix,.int .i64 m.kn,.string m.text,.slice ma m.n mc]:=hg 1 (Wt rfl)
   obtain ⟨qh,e3,k1,k2,k3⟩:∃ qh,t 3=.func (.func 150) #[] #[.pointer (some ⟨qh,0,none⟩)]∧W.1.size≤qh∧qh<X.1.size∧X.cell? ⟨qh,0,none⟩=some (.pointer (some ⟨B,0,none⟩)):=hg 3 (Wt rfl)
   have h:=hK (.agg #[.pointer (some ⟨B,0,none⟩),.int .i64 m.kind,.int .i64 m.from_,.int .i64 m.to,.int .i64 m.bal,.int .i64 m.ix,.int .i64 m.kn,.string m.text,.slice ma m.n mc,.func (.func 150) #[] #[.pointer (some ⟨qh,0,none⟩)]]) X ⟨qh,rfl,k1,k2,k3⟩ (br _ _)
   have HK:=hid h
   refine Zi rfl rfl ?_
   clear hK hg h
   simp only [e0,e1,e3]
   go_simp
   simpa [updT,e0,e1,e3] using HK.out
  ·have h:=hK (.pointer (some ⟨X.1.size,0,none⟩)) (X.alloc (.cells dskZ 134)) ⟨X.1.size,rfl,hb.size,by simp,Bx.new X dskZ 134⟩ (Zb _ _)
   have HK:=hid h
   refine Zi rfl rfl ?_
   clear hK hg h
   go_simp
   simpa [updT] using HK.out
 ·intro t X K hb hg hK
  obtain ⟨qh,e4,k1,k2,k3⟩:∃ qh,t 4=.agg #[.pointer (some ⟨B,0,none⟩),.int .i64 m.kind,.int .i64 m.from_,.int .i64 m.to,.int .i64 m.bal,.int .i64 m.ix,.int .i64 m.kn,.string m.text,.slice ma m.n mc,.func (.func 150) #[] #[.pointer (some ⟨qh,0,none⟩)]]∧W.1.size≤qh∧qh<X.1.size∧X.cell? ⟨qh,0,none⟩=some (.pointer (some ⟨B,0,none⟩)):=hg 4 (by omega)
  obtain ⟨D,e5,l1,l2,l3⟩:∃ D,t 5=.pointer (some ⟨D,0,none⟩)∧W.1.size≤D∧D<X.1.size∧Bx X D dskZ:=hg 5 (by omega)
  refine Zi rfl rfl ?_
  have hne:D≠qh:=fun e=>by subst e;have h0:X.cell? ⟨D,0,none⟩=some (.pointer none):=l3.cell 0;rw [k3] at h0;cases h0
  have x0:Bx (X.setCell ⟨D,0,none⟩ (.pointer (some ⟨B,0,none⟩))) D #[.pointer (some ⟨B,0,none⟩),.int .i64 0,.int .i64 0,.int .i64 0,.int .i64 0,.int .i64 0,.int .i64 0,.string ⟨#[]⟩,.slice none 0 0,.nilFunc]:=l3.to (Holds.set (i:=0) l3.cell (by simp) (.pointer (some ⟨B,0,none⟩)))
  have x1:Bx ((X.setCell ⟨D,0,none⟩ (.pointer (some ⟨B,0,none⟩))).setCell ⟨D,1,none⟩ (.int .i64 m.kind)) D #[.pointer (some ⟨B,0,none⟩),.int .i64 m.kind,.int .i64 0,.int .i64 0,.int .i64 0,.int .i64 0,.int .i64 0,.string ⟨#[]⟩,.slice none 0 0,.nilFunc]:=x0.to (Holds.set (i:=1) x0.cell (by simp) (.int .i64 m.kind))
  have x2:Bx (((X.setCell ⟨D,0,none⟩ (.pointer (some ⟨B,0,none⟩))).setCell ⟨D,1,none⟩ (.int .i64 m.kind)).setCell ⟨D,2,none⟩ (.int .i64 m.from_)) D #[.pointer (some ⟨B,0,none⟩),.int .i64 m.kind,.int .i64 m.from_,.int .i64 0,.int .i64 0,.int .i64 0,.int .i64 0,.string ⟨#[]⟩,.slice none 0 0,.nilFunc]:=x1.to (Holds.set (i:=2) x1.cell (by simp) (.int .i64 m.from_))
  have x3:Bx ((((X.setCell ⟨D,0,none⟩ (.pointer (some ⟨B,0,none⟩))).setCell ⟨D,1,none⟩ (.int .i64 m.kind)).setCell ⟨D,2,none⟩ (.int .i64 m.from_)).setCell ⟨D,3,none⟩ (.int .i64 m.to)) D #[.pointer (some ⟨B,0,none⟩),.int .i64 m.kind,.int .i64 m.from_,.int .i64 m.to,.int .i64 0,.int .i64 0,.int .i64 0,.string ⟨#[]⟩,.slice none 0 0,.nilFunc]:=x2.to (Holds.set (i:=3) x2.cell (by simp) (.int .i64 m.to))
  have x4:Bx (((((X.setCell ⟨D,0,none⟩ (.pointer (some ⟨B,0,none⟩))).setCell ⟨D,1,none⟩ (.int .i64 m.kind)).setCell ⟨D,2,none⟩ (.int .i64 m.from_)).setCell ⟨D,3,none⟩ (.int .i64 m.to)).setCell ⟨D,4,none⟩ (.int .i64 m.bal)) D #[.pointer (some ⟨B,0,none⟩),.int .i64 m.kind,.int .i64 m.from_,.int .i64 m.to,.int .i64 m.bal,.int .i64 0,.int .i64 0,.string ⟨#[]⟩,.slice none 0 0,.nilFunc]:=x3.to (Holds.set (i:=4) x3.cell (by simp) (.int .i64 m.bal))
  have x5:Bx ((((((X.setCell ⟨D,0,none⟩ (.pointer (some ⟨B,0,none⟩))).setCell ⟨D,1,none⟩ (.int .i64 m.kind)).setCell ⟨D,2,none⟩ (.int .i64 m.from_)).setCell ⟨D,3,none⟩ (.int .i64 m.to)).setCell ⟨D,4,none⟩ (.int .i64 m.bal)).setCell ⟨D,5,none⟩ (.int .i64 m.ix)) D #[.pointer (some ⟨B,0,none⟩),.int .i64 m.kind,.int .i64 m.from_,.int .i64 m.to,.int .i64 m.bal,.int .i64 m.ix,.int .i64 0,.string ⟨#[]⟩,.slice none 0 0,.nilFunc]:=x4.to (Holds.set (i:=5) x4.cell (by simp) (.int .i64 m.ix))
  have x6:Bx (((((((X.setCell ⟨D,0,none⟩ (.pointer (some ⟨B,0,none⟩))).setCell ⟨D,1,none⟩ (.int .i64 m.kind)).setCell ⟨D,2,none⟩ (.int .i64 m.from_)).setCell ⟨D,3,none⟩ (.int .i64 m.to)).setCell ⟨D,4,none⟩ (.int .i64 m.bal)).setCell ⟨D,5,none⟩ (.int .i64 m.ix)).setCell ⟨D,6,none⟩ (.int .i64 m.kn)) D #[.pointer (some ⟨B,0,none⟩),.int .i64 m.kind,.int .i64 m.from_,.int .i64 m.to,.int .i64 m.bal,.int .i64 m.ix,.int .i64 m.kn,.string ⟨#[]⟩,.slice none 0 0,.nilFunc]:=x5.to (Holds.set (i:=6) x5.cell (by simp) (.int .i64 m.kn))
  have x7:Bx ((((((((X.setCell ⟨D,0,none⟩ (.pointer (some ⟨B,0,none⟩))).setCell ⟨D,1,none⟩ (.int .i64 m.kind)).setCell ⟨D,2,none⟩ (.int .i64 m.from_)).setCell ⟨D,3,none⟩ (.int .i64 m.to)).setCell ⟨D,4,none⟩ (.int .i64 m.bal)).setCell ⟨D,5,none⟩ (.int .i64 m.ix)).setCell ⟨D,6,none⟩ (.int .i64 m.kn)).setCell ⟨D,7,none⟩ (.string m.text)) D #[.pointer (some ⟨B,0,none⟩),.int .i64 m.kind,.int .i64 m.from_,.int .i64 m.to,.int .i64 m.bal,.int .i64 m.ix,.int .i64 m.kn,.string m.text,.slice none 0 0,.nilFunc]:=x6.to (Holds.set (i:=7) x6.cell (by simp) (.string m.text))
  have x8:Bx (((((((((X.setCell ⟨D,0,none⟩ (.pointer (some ⟨B,0,none⟩))).setCell ⟨D,1,none⟩ (.int .i64 m.kind)).setCell ⟨D,2,none⟩ (.int .i64 m.from_)).setCell ⟨D,3,none⟩ (.int .i64 m.to)).setCell ⟨D,4,none⟩ (.int .i64 m.bal)).setCell ⟨D,5,none⟩ (.int .i64 m.ix)).setCell ⟨D,6,none⟩ (.int .i64 m.kn)).setCell ⟨D,7,none⟩ (.string m.text)).setCell ⟨D,8,none⟩ (.slice ma m.n mc)) D #[.pointer (some ⟨B,0,none⟩),.int .i64 m.kind,.int .i64 m.from_,.int .i64 m.to,.int .i64 m.bal,.int .i64 m.ix,.int .i64 m.kn,.string m.text,.slice ma m.n mc,.nilFunc]:=x7.to (Holds.set (i:=8) x7.cell (by simp) (.slice ma m.n mc))
  have x9:Bx ((((((((((X.setCell ⟨D,0,none⟩ (.pointer (some ⟨B,0,none⟩))).setCell ⟨D,1,none⟩ (.int .i64 m.kind)).setCell ⟨D,2,none⟩ (.int .i64 m.from_)).setCell ⟨D,3,none⟩ (.int .i64 m.to)).setCell ⟨D,4,none⟩ (.int .i64 m.bal)).setCell ⟨D,5,none⟩ (.int .i64 m.ix)).setCell ⟨D,6,none⟩ (.int .i64 m.kn)).setCell ⟨D,7,none⟩ (.string m.text)).setCell ⟨D,8,none⟩ (.slice ma m.n mc)).setCell ⟨D,9,none⟩ (.func (.func 150) #[] #[.pointer (some ⟨qh,0,none⟩)])) D #[.pointer (some ⟨B,0,none⟩),.int .i64 m.kind,.int .i64 m.from_,.int .i64 m.to,.int .i64 m.bal,.int .i64 m.ix,.int .i64 m.kn,.string m.text,.slice ma m.n mc,.func (.func 150) #[] #[.pointer (some ⟨qh,0,none⟩)]]:=x8.to (Holds.set (i:=9) x8.cell (by simp) (.func (.func 150) #[] #[.pointer (some ⟨qh,0,none⟩)]))
  have fch:FrP (fun q=>q=D) X ((((((((((X.setCell ⟨D,0,none⟩ (.pointer (some ⟨B,0,none⟩))).setCell ⟨D,1,none⟩ (.int .i64 m.kind)).setCell ⟨D,2,none⟩ (.int .i64 m.from_)).setCell ⟨D,3,none⟩ (.int .i64 m.to)).setCell ⟨D,4,none⟩ (.int .i64 m.bal)).setCell ⟨D,5,none⟩ (.int .i64 m.ix)).setCell ⟨D,6,none⟩ (.int .i64 m.kn)).setCell ⟨D,7,none⟩ (.string m.text)).setCell ⟨D,8,none⟩ (.slice ma m.n mc)).setCell ⟨D,9,none⟩ (.func (.func 150) #[] #[.pointer (some ⟨qh,0,none⟩)])):=(((((((((((FrP.refl (fun q=>q=D) X).setCell (p:=⟨D,0,none⟩) rfl (.pointer (some ⟨B,0,none⟩))).setCell (p:=⟨D,1,none⟩) rfl (.int .i64 m.kind)).setCell (p:=⟨D,2,none⟩) rfl (.int .i64 m.from_)).setCell (p:=⟨D,3,none⟩) rfl (.int .i64 m.to)).setCell (p:=⟨D,4,none⟩) rfl (.int .i64 m.bal)).setCell (p:=⟨D,5,none⟩) rfl (.int .i64 m.ix)).setCell (p:=⟨D,6,none⟩) rfl (.int .i64 m.kn)).setCell (p:=⟨D,7,none⟩) rfl (.string m.text)).setCell (p:=⟨D,8,none⟩) rfl (.slice ma m.n mc)).setCell (p:=⟨D,9,none⟩) rfl (.func (.func 150) #[] #[.pointer (some ⟨qh,0,none⟩)]))
  have h:=hK _ ((((((((((X.setCell ⟨D,0,none⟩ (.pointer (some ⟨B,0,none⟩))).setCell ⟨D,1,none⟩ (.int .i64 m.kind)).setCell ⟨D,2,none⟩ (.int .i64 m.from_)).setCell ⟨D,3,none⟩ (.int .i64 m.to)).setCell ⟨D,4,none⟩ (.int .i64 m.bal)).setCell ⟨D,5,none⟩ (.int .i64 m.ix)).setCell ⟨D,6,none⟩ (.int .i64 m.kn)).setCell ⟨D,7,none⟩ (.string m.text)).setCell ⟨D,8,none⟩ (.slice ma m.n mc)).setCell ⟨D,9,none⟩ (.func (.func 150) #[] #[.pointer (some ⟨qh,0,none⟩)])) ⟨t,.tuple #[],rfl,D,qh,l1,k1,hne,e5,ltl k2 fch.size,(fch.cell (p:=⟨qh,0,none⟩) k2 (fun e=>hne e.symm)).trans k3,x9,hb.trans (fch.below (B:=W.1.size) (fun q hq e=>by omega) hb.size)⟩
  have HF:=hid h
  clear h x0 x1 x2 x3 x4 x5 x6 x7 x8 x9 fch
  obtain ⟨z0,z1,z2,z3,z4,z5,z6,z7,z8,z9⟩:=holds10 l3.cell
  have zf:=l3.free
  clear hK hg
  simp only [e4,e5]
  go_simp
  simpa [e4,e5] using HF.out
 ·rintro a X ⟨t,v3,rfl,hp⟩
  exact hQ t v3 X hp
theorem DoA.after {B:Nat} {r:Rc} {p:RcP} {r':Rc} {w X:World} (hb:Below w.1.size w X) {e:Ending} {w':World} (h:DoA B r p r' X e w'):DoA B r p r' w e w':=by
 obtain ⟨he,p',x,a,f,s⟩:=h
 exact ⟨he,p',x,a,(FrP.of_below hb).trans2 f (fun q _ e=>e),fun q hq=>by
  rcases s q hq with h|h
  ·exact Or.inl h
  ·exact Or.inr (ltr hb.size h)⟩
set_option maxRecDepth 100000 in
theorem takeInto_1 (B:Nat) (m:Ms) (ma:Option Addr) (mc:Nat) (r:Rc) (p:RcP) (O:Rc) (w:World) (hbx:Bx w B (rcC r p.A)) (hg:RcG w r p) (hB:∀ i,rbs p r i→i≠B) (hk:m.kind=1) (hC:∀ D qh X,Below w.1.size w X→DskAt X D B qh m ma mc r p→Calls Tryz.prog 118 #[.pointer (some ⟨D,0,none⟩)] X fun e w'=>DoA B r p O X e w') :
  Calls Tryz.prog 70 #[.pointer (some ⟨B,0,none⟩),msV m ma mc] w fun e w'=>DoA B r p O w e w':=by
 have HBX:=hid hbx
 have HG:=hid hg
 have HB:=hid hB
 have HK:=hid hk
 have HC:=hid hC
 clear hbx hg hB hk hC
 go_enter Tryz.func70,Tryz.ntmps70
 go_wp2
 refine Xm _ _ _ _ _ _ _ _ _ _ _ _ _ _ _ _ _ _ _ _ _ _ _ _ B w.1.size m ma mc (w.alloc (.cells #[.int .i64 m.kind,.int .i64 m.from_,.int .i64 m.to,.int .i64 m.bal,.int .i64 m.ix,.int .i64 m.kn,.string m.text,.slice ma m.n mc] 52)) (Bx.new w #[.int .i64 m.kind,.int .i64 m.from_,.int .i64 m.to,.int .i64 m.bal,.int .i64 m.ix,.int .i64 m.kn,.string m.text,.slice ma m.n mc] 52) _ ?_
 rintro t v3 X ⟨D,qh,l1,l2,l3,e5,l4,l5,l6,hb⟩
 rw [e5]
 have hb0:Below w.1.size w X:=(Zb w _).trans (hb.mono (by simp))
 have hs:w.1.size<D∧w.1.size<qh:=by simp at l1 l2;omega
 have cM:X.cell? ⟨w.1.size,0,none⟩=some (.int .i64 1):=(hb.cell (p:=⟨w.1.size,0,none⟩) (by simp)).trans (by simp;exact HK.out)
 have HD:=hid (show DskAt X D B qh m ma mc r p from ⟨l6,HBX.out.below hb0 HBX.out.lt,l5,l4,HG.out.grow hb0,fun q hq=>by have:=HG.out.at_.lt q hq;exact ⟨HB.out q hq,by omega,by omega⟩,by have:=HBX.out.lt;exact ⟨by omega,l3,by omega⟩⟩)
 have HB0:=hid hb0
 have hsX:w.1.size<X.1.size:=by have:=l6.lt;omega
 clear l1 l2 l3 e5 l4 l5 l6 hb hb0 HBX HG HB
 skip
 go_wp2_with (go_at_call 118;go_must (refine (HC.out D qh _ (HB0.out.trans ((Zb X _).mono (Nat.le_of_lt hsX))) (HD.out.grow (Zb X _))).mono ?_;rintro e w9 hd;have he:=hd.1;subst he;have HE:=hid (DoA.after (HB0.out.trans ((Zb X _).mono (Nat.le_of_lt hsX))) hd);clear hd))
 refine bodyPost_end (results_none rfl _ _ _) rfl ?_
 exact HE.out
set_option maxRecDepth 100000 in
theorem takeInto_2 (B:Nat) (m:Ms) (ma:Option Addr) (mc:Nat) (r:Rc) (p:RcP) (O:Rc) (w:World) (hbx:Bx w B (rcC r p.A)) (hg:RcG w r p) (hB:∀ i,rbs p r i→i≠B) (hk:m.kind=2) (hC:∀ D qh X,Below w.1.size w X→DskAt X D B qh m ma mc r p→Calls Tryz.prog 119 #[.pointer (some ⟨D,0,none⟩)] X fun e w'=>DoA B r p O X e w') :
  Calls Tryz.prog 70 #[.pointer (some ⟨B,0,none⟩),msV m ma mc] w fun e w'=>DoA B r p O w e w':=by
 have HBX:=hid hbx
 have HG:=hid hg
 have HB:=hid hB
 have HK:=hid hk
 have HC:=hid hC
 clear hbx hg hB hk hC
 go_enter Tryz.func70,Tryz.ntmps70
 go_wp2
 refine Xm _ _ _ _ _ _ _ _ _ _ _ _ _ _ _ _ _ _ _ _ _ _ _ _ B w.1.size m ma mc (w.alloc (.cells #[.int .i64 m.kind,.int .i64 m.from_,.int .i64 m.to,.int .i64 m.bal,.int .i64 m.ix,.int .i64 m.kn,.string m.text,.slice ma m.n mc] 52)) (Bx.new w #[.int .i64 m.kind,.int .i64 m.from_,.int .i64 m.to,.int .i64 m.bal,.int .i64 m.ix,.int .i64 m.kn,.string m.text,.slice ma m.n mc] 52) _ ?_
 rintro t v3 X ⟨D,qh,l1,l2,l3,e5,l4,l5,l6,hb⟩
 rw [e5]
 have hb0:Below w.1.size w X:=(Zb w _).trans (hb.mono (by simp))
 have hs:w.1.size<D∧w.1.size<qh:=by simp at l1 l2;omega
 have cM:X.cell? ⟨w.1.size,0,none⟩=some (.int .i64 2):=(hb.cell (p:=⟨w.1.size,0,none⟩) (by simp)).trans (by simp;exact HK.out)
 have HD:=hid (show DskAt X D B qh m ma mc r p from ⟨l6,HBX.out.below hb0 HBX.out.lt,l5,l4,HG.out.grow hb0,fun q hq=>by have:=HG.out.at_.lt q hq;exact ⟨HB.out q hq,by omega,by omega⟩,by have:=HBX.out.lt;exact ⟨by omega,l3,by omega⟩⟩)
 have HB0:=hid hb0
 have hsX:w.1.size<X.1.size:=by have:=l6.lt;omega
 clear l1 l2 l3 e5 l4 l5 l6 hb hb0 HBX HG HB
 skip
 go_wp2_with (go_at_call 119;go_must (refine (HC.out D qh _ (HB0.out.trans ((Zb X _).mono (Nat.le_of_lt hsX))) (HD.out.grow (Zb X _))).mono ?_;rintro e w9 hd;have he:=hd.1;subst he;have HE:=hid (DoA.after (HB0.out.trans ((Zb X _).mono (Nat.le_of_lt hsX))) hd);clear hd))
 refine bodyPost_end (results_none rfl _ _ _) rfl ?_
 exact HE.out
set_option maxRecDepth 100000 in
theorem takeInto_3 (B:Nat) (m:Ms) (ma:Option Addr) (mc:Nat) (r:Rc) (p:RcP) (O:Rc) (w:World) (hbx:Bx w B (rcC r p.A)) (hg:RcG w r p) (hB:∀ i,rbs p r i→i≠B) (hk:m.kind=3) (hC:∀ D qh X,Below w.1.size w X→DskAt X D B qh m ma mc r p→Calls Tryz.prog 120 #[.pointer (some ⟨D,0,none⟩)] X fun e w'=>DoA B r p O X e w') :
  Calls Tryz.prog 70 #[.pointer (some ⟨B,0,none⟩),msV m ma mc] w fun e w'=>DoA B r p O w e w':=by
 have HBX:=hid hbx
 have HG:=hid hg
 have HB:=hid hB
 have HK:=hid hk
 have HC:=hid hC
 clear hbx hg hB hk hC
 go_enter Tryz.func70,Tryz.ntmps70
 go_wp2
 refine Xm _ _ _ _ _ _ _ _ _ _ _ _ _ _ _ _ _ _ _ _ _ _ _ _ B w.1.size m ma mc (w.alloc (.cells #[.int .i64 m.kind,.int .i64 m.from_,.int .i64 m.to,.int .i64 m.bal,.int .i64 m.ix,.int .i64 m.kn,.string m.text,.slice ma m.n mc] 52)) (Bx.new w #[.int .i64 m.kind,.int .i64 m.from_,.int .i64 m.to,.int .i64 m.bal,.int .i64 m.ix,.int .i64 m.kn,.string m.text,.slice ma m.n mc] 52) _ ?_
 rintro t v3 X ⟨D,qh,l1,l2,l3,e5,l4,l5,l6,hb⟩
 rw [e5]
 have hb0:Below w.1.size w X:=(Zb w _).trans (hb.mono (by simp))
 have hs:w.1.size<D∧w.1.size<qh:=by simp at l1 l2;omega
 have cM:X.cell? ⟨w.1.size,0,none⟩=some (.int .i64 3):=(hb.cell (p:=⟨w.1.size,0,none⟩) (by simp)).trans (by simp;exact HK.out)
 have HD:=hid (show DskAt X D B qh m ma mc r p from ⟨l6,HBX.out.below hb0 HBX.out.lt,l5,l4,HG.out.grow hb0,fun q hq=>by have:=HG.out.at_.lt q hq;exact ⟨HB.out q hq,by omega,by omega⟩,by have:=HBX.out.lt;exact ⟨by omega,l3,by omega⟩⟩)
 have HB0:=hid hb0
 have hsX:w.1.size<X.1.size:=by have:=l6.lt;omega
 clear l1 l2 l3 e5 l4 l5 l6 hb hb0 HBX HG HB
 skip
 go_wp2_with (go_at_call 120;go_must (refine (HC.out D qh _ (HB0.out.trans ((Zb X _).mono (Nat.le_of_lt hsX))) (HD.out.grow (Zb X _))).mono ?_;rintro e w9 hd;have he:=hd.1;subst he;have HE:=hid (DoA.after (HB0.out.trans ((Zb X _).mono (Nat.le_of_lt hsX))) hd);clear hd))
 refine bodyPost_end (results_none rfl _ _ _) rfl ?_
 exact HE.out
set_option maxRecDepth 100000 in
theorem takeInto_4 (B:Nat) (m:Ms) (ma:Option Addr) (mc:Nat) (r:Rc) (p:RcP) (O:Rc) (w:World) (hbx:Bx w B (rcC r p.A)) (hg:RcG w r p) (hB:∀ i,rbs p r i→i≠B) (hk:m.kind=4) (hC:∀ D qh X,Below w.1.size w X→DskAt X D B qh m ma mc r p→Calls Tryz.prog 121 #[.pointer (some ⟨D,0,none⟩)] X fun e w'=>DoA B r p O X e w') :
  Calls Tryz.prog 70 #[.pointer (some ⟨B,0,none⟩),msV m ma mc] w fun e w'=>DoA B r p O w e w':=by
 have HBX:=hid hbx
 have HG:=hid hg
 have HB:=hid hB
 have HK:=hid hk
 have HC:=hid hC
 clear hbx hg hB hk hC
 go_enter Tryz.func70,Tryz.ntmps70
 go_wp2
 refine Xm _ _ _ _ _ _ _ _ _ _ _ _ _ _ _ _ _ _ _ _ _ _ _ _ B w.1.size m ma mc (w.alloc (.cells #[.int .i64 m.kind,.int .i64 m.from_,.int .i64 m.to,.int .i64 m.bal,.int .i64 m.ix,.int .i64 m.kn,.string m.text,.slice ma m.n mc] 52)) (Bx.new w #[.int .i64 m.kind,.int .i64 m.from_,.int .i64 m.to,.int .i64 m.bal,.int .i64 m.ix,.int .i64 m.kn,.string m.text,.slice ma m.n mc] 52) _ ?_
 rintro t v3 X ⟨D,qh,l1,l2,l3,e5,l4,l5,l6,hb⟩
 rw [e5]
 have hb0:Below w.1.size w X:=(Zb w _).trans (hb.mono (by simp))
 have hs:w.1.size<D∧w.1.size<qh:=by simp at l1 l2;omega
 have cM:X.cell? ⟨w.1.size,0,none⟩=some (.int .i64 4):=(hb.cell (p:=⟨w.1.size,0,none⟩) (by simp)).trans (by simp;exact HK.out)
 have HD:=hid (show DskAt X D B qh m ma mc r p from ⟨l6,HBX.out.below hb0 HBX.out.lt,l5,l4,HG.out.grow hb0,fun q hq=>by have:=HG.out.at_.lt q hq;exact ⟨HB.out q hq,by omega,by omega⟩,by have:=HBX.out.lt;exact ⟨by omega,l3,by omega⟩⟩)
 have HB0:=hid hb0
 have hsX:w.1.size<X.1.size:=by have:=l6.lt;omega
 clear l1 l2 l3 e5 l4 l5 l6 hb hb0 HBX HG HB
 skip
 go_wp2_with (go_at_call 121;go_must (refine (HC.out D qh _ (HB0.out.trans ((Zb X _).mono (Nat.le_of_lt hsX))) (HD.out.grow (Zb X _))).mono ?_;rintro e w9 hd;have he:=hd.1;subst he;have HE:=hid (DoA.after (HB0.out.trans ((Zb X _).mono (Nat.le_of_lt hsX))) hd);clear hd))
 refine bodyPost_end (results_none rfl _ _ _) rfl ?_
 exact HE.out
set_option maxRecDepth 100000 in
theorem takeInto_5 (B:Nat) (m:Ms) (ma:Option Addr) (mc:Nat) (r:Rc) (p:RcP) (O:Rc) (w:World) (hbx:Bx w B (rcC r p.A)) (hg:RcG w r p) (hB:∀ i,rbs p r i→i≠B) (hk:m.kind=5) (hC:∀ D qh X,Below w.1.size w X→DskAt X D B qh m ma mc r p→Calls Tryz.prog 122 #[.pointer (some ⟨D,0,none⟩)] X fun e w'=>DoA B r p O X e w') :
  Calls Tryz.prog 70 #[.pointer (some ⟨B,0,none⟩),msV m ma mc] w fun e w'=>DoA B r p O w e w':=by
 have HBX:=hid hbx
 have HG:=hid hg
 have HB:=hid hB
 have HK:=hid hk
 have HC:=hid hC
 clear hbx hg hB hk hC
 go_enter Tryz.func70,Tryz.ntmps70
 go_wp2
 refine Xm _ _ _ _ _ _ _ _ _ _ _ _ _ _ _ _ _ _ _ _ _ _ _ _ B w.1.size m ma mc (w.alloc (.cells #[.int .i64 m.kind,.int .i64 m.from_,.int .i64 m.to,.int .i64 m.bal,.int .i64 m.ix,.int .i64 m.kn,.string m.text,.slice ma m.n mc] 52)) (Bx.new w #[.int .i64 m.kind,.int .i64 m.from_,.int .i64 m.to,.int .i64 m.bal,.int .i64 m.ix,.int .i64 m.kn,.string m.text,.slice ma m.n mc] 52) _ ?_
 rintro t v3 X ⟨D,qh,l1,l2,l3,e5,l4,l5,l6,hb⟩
 rw [e5]
 have hb0:Below w.1.size w X:=(Zb w _).trans (hb.mono (by simp))
 have hs:w.1.size<D∧w.1.size<qh:=by simp at l1 l2;omega
 have cM:X.cell? ⟨w.1.size,0,none⟩=some (.int .i64 5):=(hb.cell (p:=⟨w.1.size,0,none⟩) (by simp)).trans (by simp;exact HK.out)
 have HD:=hid (show DskAt X D B qh m ma mc r p from ⟨l6,HBX.out.below hb0 HBX.out.lt,l5,l4,HG.out.grow hb0,fun q hq=>by have:=HG.out.at_.lt q hq;exact ⟨HB.out q hq,by omega,by omega⟩,by have:=HBX.out.lt;exact ⟨by omega,l3,by omega⟩⟩)
 have HB0:=hid hb0
 have hsX:w.1.size<X.1.size:=by have:=l6.lt;omega
 clear l1 l2 l3 e5 l4 l5 l6 hb hb0 HBX HG HB
 skip
 go_wp2_with (go_at_call 122;go_must (refine (HC.out D qh _ (HB0.out.trans ((Zb X _).mono (Nat.le_of_lt hsX))) (HD.out.grow (Zb X _))).mono ?_;rintro e w9 hd;have he:=hd.1;subst he;have HE:=hid (DoA.after (HB0.out.trans ((Zb X _).mono (Nat.le_of_lt hsX))) hd);clear hd))
 refine bodyPost_end (results_none rfl _ _ _) rfl ?_
 exact HE.out
set_option maxRecDepth 100000 in
theorem takeInto_6 (B:Nat) (m:Ms) (ma:Option Addr) (mc:Nat) (r:Rc) (p:RcP) (O:Rc) (w:World) (hbx:Bx w B (rcC r p.A)) (hg:RcG w r p) (hB:∀ i,rbs p r i→i≠B) (hk:m.kind=6) (hC:∀ D qh X,Below w.1.size w X→DskAt X D B qh m ma mc r p→Calls Tryz.prog 123 #[.pointer (some ⟨D,0,none⟩)] X fun e w'=>DoA B r p O X e w') :
  Calls Tryz.prog 70 #[.pointer (some ⟨B,0,none⟩),msV m ma mc] w fun e w'=>DoA B r p O w e w':=by
 have HBX:=hid hbx
 have HG:=hid hg
 have HB:=hid hB
 have HK:=hid hk
 have HC:=hid hC
 clear hbx hg hB hk hC
 go_enter Tryz.func70,Tryz.ntmps70
 go_wp2
 refine Xm _ _ _ _ _ _ _ _ _ _ _ _ _ _ _ _ _ _ _ _ _ _ _ _ B w.1.size m ma mc (w.alloc (.cells #[.int .i64 m.kind,.int .i64 m.from_,.int .i64 m.to,.int .i64 m.bal,.int .i64 m.ix,.int .i64 m.kn,.string m.text,.slice ma m.n mc] 52)) (Bx.new w #[.int .i64 m.kind,.int .i64 m.from_,.int .i64 m.to,.int .i64 m.bal,.int .i64 m.ix,.int .i64 m.kn,.string m.text,.slice ma m.n mc] 52) _ ?_
 rintro t v3 X ⟨D,qh,l1,l2,l3,e5,l4,l5,l6,hb⟩
 rw [e5]
 have hb0:Below w.1.size w X:=(Zb w _).trans (hb.mono (by simp))
 have hs:w.1.size<D∧w.1.size<qh:=by simp at l1 l2;omega
 have cM:X.cell? ⟨w.1.size,0,none⟩=some (.int .i64 6):=(hb.cell (p:=⟨w.1.size,0,none⟩) (by simp)).trans (by simp;exact HK.out)
 have HD:=hid (show DskAt X D B qh m ma mc r p from ⟨l6,HBX.out.below hb0 HBX.out.lt,l5,l4,HG.out.grow hb0,fun q hq=>by have:=HG.out.at_.lt q hq;exact ⟨HB.out q hq,by omega,by omega⟩,by have:=HBX.out.lt;exact ⟨by omega,l3,by omega⟩⟩)
 have HB0:=hid hb0
 have hsX:w.1.size<X.1.size:=by have:=l6.lt;omega
 clear l1 l2 l3 e5 l4 l5 l6 hb hb0 HBX HG HB
 skip
 go_wp2_with (go_at_call 123;go_must (refine (HC.out D qh _ (HB0.out.trans ((Zb X _).mono (Nat.le_of_lt hsX))) (HD.out.grow (Zb X _))).mono ?_;rintro e w9 hd;have he:=hd.1;subst he;have HE:=hid (DoA.after (HB0.out.trans ((Zb X _).mono (Nat.le_of_lt hsX))) hd);clear hd))
 refine bodyPost_end (results_none rfl _ _ _) rfl ?_
 exact HE.out
set_option maxRecDepth 100000 in
theorem takeInto_7 (B:Nat) (m:Ms) (ma:Option Addr) (mc:Nat) (r:Rc) (p:RcP) (O:Rc) (w:World) (hbx:Bx w B (rcC r p.A)) (hg:RcG w r p) (hB:∀ i,rbs p r i→i≠B) (hk:m.kind=7) (hC:∀ D qh X,Below w.1.size w X→DskAt X D B qh m ma mc r p→Calls Tryz.prog 124 #[.pointer (some ⟨D,0,none⟩)] X fun e w'=>DoA B r p O X e w') :
  Calls Tryz.prog 70 #[.pointer (some ⟨B,0,none⟩),msV m ma mc] w fun e w'=>DoA B r p O w e w':=by
 have HBX:=hid hbx
 have HG:=hid hg
 have HB:=hid hB
 have HK:=hid hk
 have HC:=hid hC
 clear hbx hg hB hk hC
 go_enter Tryz.func70,Tryz.ntmps70
 go_wp2
 refine Xm _ _ _ _ _ _ _ _ _ _ _ _ _ _ _ _ _ _ _ _ _ _ _ _ B w.1.size m ma mc (w.alloc (.cells #[.int .i64 m.kind,.int .i64 m.from_,.int .i64 m.to,.int .i64 m.bal,.int .i64 m.ix,.int .i64 m.kn,.string m.text,.slice ma m.n mc] 52)) (Bx.new w #[.int .i64 m.kind,.int .i64 m.from_,.int .i64 m.to,.int .i64 m.bal,.int .i64 m.ix,.int .i64 m.kn,.string m.text,.slice ma m.n mc] 52) _ ?_
 rintro t v3 X ⟨D,qh,l1,l2,l3,e5,l4,l5,l6,hb⟩
 rw [e5]
 have hb0:Below w.1.size w X:=(Zb w _).trans (hb.mono (by simp))
 have hs:w.1.size<D∧w.1.size<qh:=by simp at l1 l2;omega
 have cM:X.cell? ⟨w.1.size,0,none⟩=some (.int .i64 7):=(hb.cell (p:=⟨w.1.size,0,none⟩) (by simp)).trans (by simp;exact HK.out)
 have HD:=hid (show DskAt X D B qh m ma mc r p from ⟨l6,HBX.out.below hb0 HBX.out.lt,l5,l4,HG.out.grow hb0,fun q hq=>by have:=HG.out.at_.lt q hq;exact ⟨HB.out q hq,by omega,by omega⟩,by have:=HBX.out.lt;exact ⟨by omega,l3,by omega⟩⟩)
 have HB0:=hid hb0
 have hsX:w.1.size<X.1.size:=by have:=l6.lt;omega
 clear l1 l2 l3 e5 l4 l5 l6 hb hb0 HBX HG HB
 skip
 go_wp2_with (go_at_call 124;go_must (refine (HC.out D qh _ (HB0.out.trans ((Zb X _).mono (Nat.le_of_lt hsX))) (HD.out.grow (Zb X _))).mono ?_;rintro e w9 hd;have he:=hd.1;subst he;have HE:=hid (DoA.after (HB0.out.trans ((Zb X _).mono (Nat.le_of_lt hsX))) hd);clear hd))
 refine bodyPost_end (results_none rfl _ _ _) rfl ?_
 exact HE.out
set_option maxRecDepth 100000 in
theorem takeInto_8 (B:Nat) (m:Ms) (ma:Option Addr) (mc:Nat) (r:Rc) (p:RcP) (O:Rc) (w:World) (hbx:Bx w B (rcC r p.A)) (hg:RcG w r p) (hB:∀ i,rbs p r i→i≠B) (hk:m.kind=8) (hC:∀ D qh X,Below w.1.size w X→DskAt X D B qh m ma mc r p→Calls Tryz.prog 125 #[.pointer (some ⟨D,0,none⟩)] X fun e w'=>DoA B r p O X e w') :
  Calls Tryz.prog 70 #[.pointer (some ⟨B,0,none⟩),msV m ma mc] w fun e w'=>DoA B r p O w e w':=by
 have HBX:=hid hbx
 have HG:=hid hg
 have HB:=hid hB
 have HK:=hid hk
 have HC:=hid hC
 clear hbx hg hB hk hC
 go_enter Tryz.func70,Tryz.ntmps70
 go_wp2
 refine Xm _ _ _ _ _ _ _ _ _ _ _ _ _ _ _ _ _ _ _ _ _ _ _ _ B w.1.size m ma mc (w.alloc (.cells #[.int .i64 m.kind,.int .i64 m.from_,.int .i64 m.to,.int .i64 m.bal,.int .i64 m.ix,.int .i64 m.kn,.string m.text,.slice ma m.n mc] 52)) (Bx.new w #[.int .i64 m.kind,.int .i64 m.from_,.int .i64 m.to,.int .i64 m.bal,.int .i64 m.ix,.int .i64 m.kn,.string m.text,.slice ma m.n mc] 52) _ ?_
 rintro t v3 X ⟨D,qh,l1,l2,l3,e5,l4,l5,l6,hb⟩
 rw [e5]
 have hb0:Below w.1.size w X:=(Zb w _).trans (hb.mono (by simp))
 have hs:w.1.size<D∧w.1.size<qh:=by simp at l1 l2;omega
 have cM:X.cell? ⟨w.1.size,0,none⟩=some (.int .i64 8):=(hb.cell (p:=⟨w.1.size,0,none⟩) (by simp)).trans (by simp;exact HK.out)
 have HD:=hid (show DskAt X D B qh m ma mc r p from ⟨l6,HBX.out.below hb0 HBX.out.lt,l5,l4,HG.out.grow hb0,fun q hq=>by have:=HG.out.at_.lt q hq;exact ⟨HB.out q hq,by omega,by omega⟩,by have:=HBX.out.lt;exact ⟨by omega,l3,by omega⟩⟩)
 have HB0:=hid hb0
 have hsX:w.1.size<X.1.size:=by have:=l6.lt;omega
 clear l1 l2 l3 e5 l4 l5 l6 hb hb0 HBX HG HB
 skip
 go_wp2_with (go_at_call 125;go_must (refine (HC.out D qh _ (HB0.out.trans ((Zb X _).mono (Nat.le_of_lt hsX))) (HD.out.grow (Zb X _))).mono ?_;rintro e w9 hd;have he:=hd.1;subst he;have HE:=hid (DoA.after (HB0.out.trans ((Zb X _).mono (Nat.le_of_lt hsX))) hd);clear hd))
 refine bodyPost_end (results_none rfl _ _ _) rfl ?_
 exact HE.out
set_option maxRecDepth 100000 in
theorem takeInto_9 (B:Nat) (m:Ms) (ma:Option Addr) (mc:Nat) (r:Rc) (p:RcP) (O:Rc) (w:World) (hbx:Bx w B (rcC r p.A)) (hg:RcG w r p) (hB:∀ i,rbs p r i→i≠B) (hk:m.kind=9) (hC:∀ D qh X,Below w.1.size w X→DskAt X D B qh m ma mc r p→Calls Tryz.prog 126 #[.pointer (some ⟨D,0,none⟩)] X fun e w'=>DoA B r p O X e w') :
  Calls Tryz.prog 70 #[.pointer (some ⟨B,0,none⟩),msV m ma mc] w fun e w'=>DoA B r p O w e w':=by
 have HBX:=hid hbx
 have HG:=hid hg
 have HB:=hid hB
 have HK:=hid hk
 have HC:=hid hC
 clear hbx hg hB hk hC
 go_enter Tryz.func70,Tryz.ntmps70
 go_wp2
 refine Xm _ _ _ _ _ _ _ _ _ _ _ _ _ _ _ _ _ _ _ _ _ _ _ _ B w.1.size m ma mc (w.alloc (.cells #[.int .i64 m.kind,.int .i64 m.from_,.int .i64 m.to,.int .i64 m.bal,.int .i64 m.ix,.int .i64 m.kn,.string m.text,.slice ma m.n mc] 52)) (Bx.new w #[.int .i64 m.kind,.int .i64 m.from_,.int .i64 m.to,.int .i64 m.bal,.int .i64 m.ix,.int .i64 m.kn,.string m.text,.slice ma m.n mc] 52) _ ?_
 rintro t v3 X ⟨D,qh,l1,l2,l3,e5,l4,l5,l6,hb⟩
 rw [e5]
 have hb0:Below w.1.size w X:=(Zb w _).trans (hb.mono (by simp))
 have hs:w.1.size<D∧w.1.size<qh:=by simp at l1 l2;omega
 have cM:X.cell? ⟨w.1.size,0,none⟩=some (.int .i64 9):=(hb.cell (p:=⟨w.1.size,0,none⟩) (by simp)).trans (by simp;exact HK.out)
 have HD:=hid (show DskAt X D B qh m ma mc r p from ⟨l6,HBX.out.below hb0 HBX.out.lt,l5,l4,HG.out.grow hb0,fun q hq=>by have:=HG.out.at_.lt q hq;exact ⟨HB.out q hq,by omega,by omega⟩,by have:=HBX.out.lt;exact ⟨by omega,l3,by omega⟩⟩)
 have HB0:=hid hb0
 have hsX:w.1.size<X.1.size:=by have:=l6.lt;omega
 clear l1 l2 l3 e5 l4 l5 l6 hb hb0 HBX HG HB
 skip
 go_wp2_with (go_at_call 126;go_must (refine (HC.out D qh _ (HB0.out.trans ((Zb X _).mono (Nat.le_of_lt hsX))) (HD.out.grow (Zb X _))).mono ?_;rintro e w9 hd;have he:=hd.1;subst he;have HE:=hid (DoA.after (HB0.out.trans ((Zb X _).mono (Nat.le_of_lt hsX))) hd);clear hd))
 refine bodyPost_end (results_none rfl _ _ _) rfl ?_
 exact HE.out
theorem takeInto_any (B:Nat) (m:Ms) (mb mo mc:Nat) (r:Rc) (p:RcP) (of:Int) (w:World) (hbx:Bx w B (rcC r p.A)) (hg:RcG w r p) (hB:∀ i,rbs p r i→i≠B) (ht:JB r p.A) (hAC:∀ i,i<r.an→p.AC i=(r.as_ i).n) (hb0:r.bn=0→p.A.ba=none) (hv:VdR r) (hm:msB m of=true) (hmc:m.n≤mc) (hi:Nat) (hib:hi≤B) (hs:SlsIn w 0 hi (some ⟨mb,mo,none⟩) m.n m.s) :
  Calls Tryz.prog 70 #[.pointer (some ⟨B,0,none⟩),msV m (some ⟨mb,mo,none⟩) mc] w fun e w'=>DoA B r p (takR r m) w e w':=by
 obtain ⟨m1,m2,m3,m4,m5,m6⟩:=J0 hm
 rcases (show m.kind=1∨m.kind=2∨m.kind=3∨m.kind=4∨m.kind=5∨m.kind=6∨m.kind=7∨m.kind=8∨m.kind=9 by omega) with hk|hk|hk|hk|hk|hk|hk|hk|hk
 ·have e:takR r m=preR r m:=by unfold takR;rw [if_pos hk]
  rw [e]
  exact takeInto_1 B m _ mc r p _ w hbx hg hB hk (fun D qh X hb hd=>(prepare_do D B qh m _ mc r p X hd hv.lim.dn).mono (fun e w' h=>h.a))
 ·have e:takR r m=prmR r m:=by unfold takR;rw [if_neg (by omega)];rw [if_pos hk]
  rw [e]
  exact takeInto_2 B m _ mc r p _ w hbx hg hB hk (fun D qh X hb hd=>(promised_do D B qh m mb mo mc r p X hd ht.yc ht.bc hb0 (by have:=hv.yn;omega) hv.yasc hv.lim.bn hv.ack.k0 m1.2.1 hmc hi hib (hs.below hb (by have:=hbx.lt;omega))).mono (fun e w' h=>h.a))
 ·have e:takR r m=accR r m:=by unfold takR;rw [if_neg (by omega)];rw [if_neg (by omega)];rw [if_pos hk]
  rw [e]
  exact takeInto_3 B m _ mc r p _ w hbx hg hB hk (fun D qh X hb hd=>(accept_do D B qh m _ mc r p X hd m4).mono (fun e w' h=>h.a))
 ·have e:takR r m=acdR r m:=by unfold takR;rw [if_neg (by omega)];rw [if_neg (by omega)];rw [if_neg (by omega)];rw [if_pos hk]
  rw [e]
  exact takeInto_4 B m _ mc r p _ w hbx hg hB hk (fun D qh X hb hd=>(accepted_do D B qh m _ mc r p X hd ht.ac hAC hv.ack (by omega)).mono (fun e w' h=>h.a))
 ·have e:takR r m=XN r m:=by unfold takR;rw [if_neg (by omega)];rw [if_neg (by omega)];rw [if_neg (by omega)];rw [if_neg (by omega)];rw [if_pos hk]
  rw [e]
  exact takeInto_5 B m _ mc r p _ w hbx hg hB hk (fun D qh X hb hd=>(beat_do D B qh m _ mc r p X hd ⟨hv.ack.k0,hv.ack.k1,hv.ack.dn⟩ (by have:=hv.lim.wn;omega)).mono (fun e w' h=>h.a))
 ·have e:takR r m=choR r m:=by unfold takR;rw [if_neg (by omega)];rw [if_neg (by omega)];rw [if_neg (by omega)];rw [if_neg (by omega)];rw [if_neg (by omega)];rw [if_pos hk]
  rw [e]
  exact takeInto_6 B m _ mc r p _ w hbx hg hB hk (fun D qh X hb hd=>(chosen_do D B qh m _ mc r p X hd ⟨hv.ack.k0,by have:=hv.ack.k1;have:=hv.ack.dn;omega⟩).mono (fun e w' h=>h.a))
 ·have e:takR r m=XD r m:=by unfold takR;rw [if_neg (by omega)];rw [if_neg (by omega)];rw [if_neg (by omega)];rw [if_neg (by omega)];rw [if_neg (by omega)];rw [if_neg (by omega)];rw [if_pos hk]
  rw [e]
  exact takeInto_7 B m _ mc r p _ w hbx hg hB hk (fun D qh X hb hd=>(need_do D B qh m _ mc r p X hd (by omega) ⟨hv.ack.k0,hv.ack.k1,hv.ack.dn⟩).mono (fun e w' h=>h.a))
 ·have e:takR r m=Yg r m.text:=by unfold takR;rw [if_neg (by omega)];rw [if_neg (by omega)];rw [if_neg (by omega)];rw [if_neg (by omega)];rw [if_neg (by omega)];rw [if_neg (by omega)];rw [if_neg (by omega)];rw [if_pos hk]
  rw [e]
  exact takeInto_8 B m _ mc r p _ w hbx hg hB hk (fun D qh X hb hd=>(wished_do D B qh m _ mc r p X hd hv.lim.small ht hv.ack.k0 hv.ack.k1 (by have:=m1.1;omega)).mono (fun e w' h=>h))
 ·have e:takR r m=rfdR r m:=by unfold takR;rw [if_neg (by omega)];rw [if_neg (by omega)];rw [if_neg (by omega)];rw [if_neg (by omega)];rw [if_neg (by omega)];rw [if_neg (by omega)];rw [if_neg (by omega)];rw [if_neg (by omega)];skip
  rw [e]
  exact takeInto_9 B m _ mc r p _ w hbx hg hB hk (fun D qh X hb hd=>(refused_do D B qh m _ mc r p X hd).mono (fun e w' h=>h.a))
theorem apGzf1 {P:Prop} (h:P:=by
  have mark:Nat:=0
  have mark2:Nat:=0
  generalize outT r m=O at *
  go_enter Tryz.func19,Tryz.ntmps19
  go_wp2_with (first|((with_reducible show wpList _ _ _ (⟨some 6,_,_,_,_,_⟩::_) _ _);clear mark;go_must ((generalize (((w.alloc (.cells (rcC r A) 38)).alloc (.cells #[.int .i64 m.kind,.int .i64 m.from_,.int .i64 m.to,.int .i64 m.bal,.int .i64 m.ix,.int .i64 m.kn,.string m.text,.slice (some ⟨mb,mo,none⟩) m.n mc] 52)).alloc (.cells (rcL 0 0 false).toArray 38))=W at *);have z0lt:=Z0.out.lt))|((with_reducible show wpList _ _ _ (⟨some 6,Op.load 38 _,_,_,_,_⟩::_) _ _);go_must (refine LD38 (rcC r A).toList Q0.out.cell ?_))|(go_at_call 47;go_must (refine (hV.out W lo hi (ltr hhi HB0.out.size) HF.out HN.out (HC.out.below HB0.out hhi)).mono ?_;rintro e w1 ⟨rfl,hb1⟩;have B1:=hid (HB0.out.trans (hb1.mono HB0.out.size));have Q1:=hid (Q0.out.below hb1 Q0.out.lt);have M1:=hid (M0.out.below hb1 M0.out.lt);have Z1:=hid (Z0.out.below hb1 Z0.out.lt);have z1lt:w.1.size+1+1<w1.1.size:=Z1.out.lt;clear hb1 Q0 M0 Z0 HB0))|((with_reducible show wpList _ _ _ (⟨some 10,Op.load 38 _,_,_,_,_⟩::_) _ _);go_must (refine LD38 (rcC r A).toList Q1.out.cell ?_))|(go_at_call 48;go_must (refine (XT r A w1 lo hi (ltr hhi B1.out.size) HM.out (HC.out.below B1.out hhi)).mono ?_;rintro e w2 ⟨p,rfl,hg,htt,hac,hb0,hge,hb2⟩;have B2:=hid (B1.out.trans (hb2.mono B1.out.size));have Q2:=hid (Q1.out.below hb2 Q1.out.lt);have M2:=hid (M1.out.below hb2 M1.out.lt);have Z2:=hid (Z1.out.below hb2 Z1.out.lt);have HG2:=hid hg;have HTT:=hid htt;have HAC:=hid hac;have HB00:=hid hb0;have HGE:=hid (fun k hk=>ltl z1lt (hge k hk));have z2lt:=Z2.out.lt;have z12:=hb2.size;clear hg htt hac hb0 hge hb2 Q1 M1 Z1 B1))|((with_reducible show wpList _ _ _ (⟨none,Op.store 38 (Operand.tmp 5) _,_,_,_,_⟩::_) _ _);go_must (refine Zd rfl 38 _ _ rfl w2.1.size (rcC r p.A).toList rfl rfl (Bx.new w2 (rcL 0 0 false).toArray 38) rfl Tryz.sz38 (by simp [Value.oneCell']) ?_;intro V hr hfr hsv;have HBV:=hid hr;have HFV:=hid (FrP.of_fr (P:=fun q=>q=w2.1.size) hfr (fun k h1 h2=>by omega));clear hr hfr hsv;have hb3:Below w2.1.size w2 V:=(Zb w2 _).trans (HFV.out.below (B:=w2.1.size) (fun q hq e=>by omega) (by simp));have B3:=hid (B2.out.trans (hb3.mono B2.out.size));have Q3:=hid (Q2.out.below hb3 Q2.out.lt);have M3:=hid (M2.out.below hb3 M2.out.lt);have Z3:=hid (Z2.out.below hb3 Z2.out.lt);have HG3:=hid (HG2.out.grow hb3);have HLT:=hid HG2.out.at_.lt;have z3:=hb3.size;clear hb3 HFV Q2 M2 Z2 HG2 B2))|((with_reducible show wpList _ _ _ (⟨some 12,_,_,_,_,_⟩::_) _ _);clear mark2;go_must (obtain ⟨q0,q1,q2,q3,q4,q5,q6,q7,q8,q9,q10,q11,q12,q13,q14,q15,q16,q17⟩:=Ze Q3.out.cell;have qf:=Q3.out.free;have qlt:=Q3.out.lt;have zlt:=Z3.out.lt;have xlt:=HBV.out.lt;obtain ⟨m0,m1,m2,m3,m4,m5,m6,m7⟩:=Zy M3.out.cell;have mlt:=M3.out.lt;clear q3 q4 q5 q6 q7 q8 q9 q10 q11 q12 q13 q14 q15 q16 q17 m0 m1 m3 m4 m5 m6 m7;rw [HUP.out] at q2))|((with_reducible show wpList _ _ _ (⟨some 29,Op.load 38 _,_,_,_,_⟩::_) _ _);go_must (refine LD38 (rcC r p.A).toList HBV.out.cell ?_))|((with_reducible show wpList _ _ _ (⟨none,Op.store 38 (Operand.tmp 4) _,_,_,_,_⟩::_) _ _);go_must (refine Zd rfl 38 _ _ rfl (w.1.size+1+1) (rcC r p.A).toList rfl rfl Z3.out rfl Tryz.sz38 (by simp [Value.oneCell']) ?_;intro Vz hr hfr hsv;have HBVz:=hid hr;have HFVz:=hid (FrP.of_fr (P:=fun q=>q=(w.1.size+1+1)) hfr (fun k h1 h2=>by omega));clear hr hfr hsv)))
  refine RZ (rcC r p.A).toList HBVz.out.cell ?_
  rw [OUT.out]
  exact ⟨p,rfl,(HG3.out.fr HFVz.out (fun k hk e=>by have:=HGE.out k hk;omega)).at_,fun k hk=>by have:=HGE.out k hk;omega,B3.out.trans (HFVz.out.below (B:=w.1.size) (fun k hk e=>by omega) (by omega))⟩):P:=h
set_option maxRecDepth 100000 in
theorem implTake_any (r:Rc) (A:RcA) (m:Ms) (mb mo mc:Nat) (w:World) (lo hi:Nat) (hhi:hi≤w.1.size) (hm:ZW r) (hf:ZR r) (hn:ZX r A) (hc:RcIn w lo hi r A) (hmf:Ji m) (hmc:m.n≤mc) (lo2 hi2:Nat) (hhi2:hi2≤w.1.size) (hms:SlsIn w lo2 hi2 (some ⟨mb,mo,none⟩) m.n m.s) :
  Calls Tryz.prog 19 #[rcV r A,msV m (some ⟨mb,mo,none⟩) mc] w fun e w'=>∃ p,e=.returned (rcV (outT r m) p.A)∧RcAt w' (outT r m) p∧(∀ k,rbs p (outT r m) k→w.1.size≤k)∧Below w.1.size w w':=by
 have HM:=hid hm
 have HF:=hid hf
 have HN:=hid hn
 have HC:=hid hc
 have HMS:=hid hms
 have hV:=hid (Uz r A)
 have MOK:=hid (show ∀ V,Below w.1.size w V→Calls Tryz.prog 69 #[msV m (some ⟨mb,mo,none⟩) mc,.int .i64 r.of] V fun e w'=>e=.returned (.bool (msB m r.of))∧Below V.1.size V w' from fun V hb=>Xi m r.of (some ⟨mb,mo,none⟩) mc V lo2 hi2 (ltr hhi2 hb.size) hmf (hms.below hb hhi2))
 have hB0:Below w.1.size w (((w.alloc (.cells (rcC r A) 38)).alloc (.cells #[.int .i64 m.kind,.int .i64 m.from_,.int .i64 m.to,.int .i64 m.bal,.int .i64 m.ix,.int .i64 m.kn,.string m.text,.slice (some ⟨mb,mo,none⟩) m.n mc] 52)).alloc (.cells (rcL 0 0 false).toArray 38)):=((Zb _ _).alloc (by simp) _).alloc (by simp;omega) _
 have hN:=Bx.new3 w (rcC r A) #[.int .i64 m.kind,.int .i64 m.from_,.int .i64 m.to,.int .i64 m.bal,.int .i64 m.ix,.int .i64 m.kn,.string m.text,.slice (some ⟨mb,mo,none⟩) m.n mc] (rcL 0 0 false).toArray 38 52 38
 have Q0:=hid hN.1
 have M0:=hid hN.2.1
 have Z0:=hid hN.2.2
 have HB0:=hid hB0
 clear hm hf hn hc hms hmf hN hB0
 obtain ⟨bv,hbv⟩:∃ b,rcB r=b:=⟨_,rfl⟩
 rw [hbv] at hV
 have HBV0:=hid hbv
 clear hbv
 cases bv
 ·skip
  have OUT:=hid (show outT r m=rc0 0 0 false by simp [outT,HBV0.out])
  have mark:Nat:=0
  generalize outT r m=O at *
  go_enter Tryz.func19,Tryz.ntmps19
  go_wp2_with (first|((with_reducible show wpList _ _ _ (⟨some 6,_,_,_,_,_⟩::_) _ _);clear mark;go_must ((generalize (((w.alloc (.cells (rcC r A) 38)).alloc (.cells #[.int .i64 m.kind,.int .i64 m.from_,.int .i64 m.to,.int .i64 m.bal,.int .i64 m.ix,.int .i64 m.kn,.string m.text,.slice (some ⟨mb,mo,none⟩) m.n mc] 52)).alloc (.cells (rcL 0 0 false).toArray 38))=W at *);have z0lt:=Z0.out.lt))|((with_reducible show wpList _ _ _ (⟨some 6,Op.load 38 _,_,_,_,_⟩::_) _ _);go_must (refine LD38 (rcC r A).toList Q0.out.cell ?_))|(go_at_call 47;go_must (refine (hV.out W lo hi (ltr hhi HB0.out.size) HF.out HN.out (HC.out.below HB0.out hhi)).mono ?_;rintro e w1 ⟨rfl,hb1⟩;have B1:=hid (HB0.out.trans (hb1.mono HB0.out.size));have Q1:=hid (Q0.out.below hb1 Q0.out.lt);have M1:=hid (M0.out.below hb1 M0.out.lt);have Z1:=hid (Z0.out.below hb1 Z0.out.lt);have z1lt:w.1.size+1+1<w1.1.size:=Z1.out.lt;clear hb1 Q0 M0 Z0 HB0))|((with_reducible show wpList _ _ _ (⟨none,Op.store 38 (Operand.tmp 4) _,_,_,_,_⟩::_) _ _);go_must (refine Zd rfl 38 _ _ rfl (w.1.size+1+1) (rcL 0 0 false) rfl rfl Z1.out rfl Tryz.sz38 (by simp [Value.oneCell']) ?_;intro Vz hr hfr hsv;have HBVz:=hid hr;have HFVz:=hid (FrP.of_fr (P:=fun q=>q=(w.1.size+1+1)) hfr (fun k h1 h2=>by omega));clear hr hfr hsv)))
  refine bodyPost_ret (v:=rcZ 0 0 false) (Zv rfl _ _ (w.1.size+1+1) (rcL 0 0 false) _ rfl (Holds.range (cs:=(rcL 0 0 false)) HBVz.out.cell) Tryz.underlying38 rfl Tryz.sz38) rfl ?_
  rw [OUT.out]
  exact ⟨pN,rfl,RcAt.none _ _ _ _,fun k ⟨j,_,hk⟩=>absurd hk (KT 0 0 false j k),B1.out.trans (HFVz.out.below (B:=w.1.size) (fun k hk e=>by omega) (by omega))⟩
 ·cases hup:r.up
  ·have HUP:=hid hup
   clear hup
   have OUT:=hid (show outT r m=r by unfold outT;rw [if_pos HBV0.out,if_neg (by unfold takB;rw [HUP.out];simp)])
   exact apGzf1
  ·have HUP:=hid hup
   clear hup
   by_cases ht:m.to=r.num
   ·cases hmb:msB m r.of
    ·skip
     have OUT:=hid (show outT r m=r by unfold outT;rw [if_pos HBV0.out,if_neg (by unfold takB;rw [hmb];simp)])
     rw [hmb] at MOK
     clear hmb
     have htz:(m.to==r.num)=true:=by simp [ht]
     clear ht
     have mark:Nat:=0
     have mark2:Nat:=0
     generalize outT r m=O at *
     go_enter Tryz.func19,Tryz.ntmps19
     go_wp2_with (first|((with_reducible show wpList _ _ _ (⟨some 6,_,_,_,_,_⟩::_) _ _);clear mark;go_must ((generalize (((w.alloc (.cells (rcC r A) 38)).alloc (.cells #[.int .i64 m.kind,.int .i64 m.from_,.int .i64 m.to,.int .i64 m.bal,.int .i64 m.ix,.int .i64 m.kn,.string m.text,.slice (some ⟨mb,mo,none⟩) m.n mc] 52)).alloc (.cells (rcL 0 0 false).toArray 38))=W at *);have z0lt:=Z0.out.lt))|((with_reducible show wpList _ _ _ (⟨some 6,Op.load 38 _,_,_,_,_⟩::_) _ _);go_must (refine LD38 (rcC r A).toList Q0.out.cell ?_))|(go_at_call 47;go_must (refine (hV.out W lo hi (ltr hhi HB0.out.size) HF.out HN.out (HC.out.below HB0.out hhi)).mono ?_;rintro e w1 ⟨rfl,hb1⟩;have B1:=hid (HB0.out.trans (hb1.mono HB0.out.size));have Q1:=hid (Q0.out.below hb1 Q0.out.lt);have M1:=hid (M0.out.below hb1 M0.out.lt);have Z1:=hid (Z0.out.below hb1 Z0.out.lt);have z1lt:w.1.size+1+1<w1.1.size:=Z1.out.lt;clear hb1 Q0 M0 Z0 HB0))|((with_reducible show wpList _ _ _ (⟨some 10,Op.load 38 _,_,_,_,_⟩::_) _ _);go_must (refine LD38 (rcC r A).toList Q1.out.cell ?_))|(go_at_call 48;go_must (refine (XT r A w1 lo hi (ltr hhi B1.out.size) HM.out (HC.out.below B1.out hhi)).mono ?_;rintro e w2 ⟨p,rfl,hg,htt,hac,hb0,hge,hb2⟩;have B2:=hid (B1.out.trans (hb2.mono B1.out.size));have Q2:=hid (Q1.out.below hb2 Q1.out.lt);have M2:=hid (M1.out.below hb2 M1.out.lt);have Z2:=hid (Z1.out.below hb2 Z1.out.lt);have HG2:=hid hg;have HTT:=hid htt;have HAC:=hid hac;have HB00:=hid hb0;have HGE:=hid (fun k hk=>ltl z1lt (hge k hk));have z2lt:=Z2.out.lt;have z12:=hb2.size;clear hg htt hac hb0 hge hb2 Q1 M1 Z1 B1))|((with_reducible show wpList _ _ _ (⟨none,Op.store 38 (Operand.tmp 5) _,_,_,_,_⟩::_) _ _);go_must (refine Zd rfl 38 _ _ rfl w2.1.size (rcC r p.A).toList rfl rfl (Bx.new w2 (rcL 0 0 false).toArray 38) rfl Tryz.sz38 (by simp [Value.oneCell']) ?_;intro V hr hfr hsv;have HBV:=hid hr;have HFV:=hid (FrP.of_fr (P:=fun q=>q=w2.1.size) hfr (fun k h1 h2=>by omega));clear hr hfr hsv;have hb3:Below w2.1.size w2 V:=(Zb w2 _).trans (HFV.out.below (B:=w2.1.size) (fun q hq e=>by omega) (by simp));have B3:=hid (B2.out.trans (hb3.mono B2.out.size));have Q3:=hid (Q2.out.below hb3 Q2.out.lt);have M3:=hid (M2.out.below hb3 M2.out.lt);have Z3:=hid (Z2.out.below hb3 Z2.out.lt);have HG3:=hid (HG2.out.grow hb3);have HLT:=hid HG2.out.at_.lt;have z3:=hb3.size;clear hb3 HFV Q2 M2 Z2 HG2 B2))|((with_reducible show wpList _ _ _ (⟨some 12,_,_,_,_,_⟩::_) _ _);clear mark2;go_must (obtain ⟨q0,q1,q2,q3,q4,q5,q6,q7,q8,q9,q10,q11,q12,q13,q14,q15,q16,q17⟩:=Ze Q3.out.cell;have qf:=Q3.out.free;have qlt:=Q3.out.lt;have zlt:=Z3.out.lt;have xlt:=HBV.out.lt;obtain ⟨m0,m1,m2,m3,m4,m5,m6,m7⟩:=Zy M3.out.cell;have mlt:=M3.out.lt;clear q3 q4 q5 q6 q7 q8 q9 q10 q11 q12 q13 q14 q15 q16 q17 m0 m1 m3 m4 m5 m6 m7;rw [HUP.out] at q2))|((with_reducible show wpList _ _ _ (⟨some 22,Op.load 52 _,_,_,_,_⟩::_) _ _);go_must (refine ZF ?hw 52 _ rfl (w.1.size+1) 0 rfl (#[.int .i64 m.kind,.int .i64 m.from_,.int .i64 m.to,.int .i64 m.bal,.int .i64 m.ix,.int .i64 m.kn,.string m.text,.slice (some ⟨mb,mo,none⟩) m.n mc]).toList _ (Holds.range (cs:=(#[.int .i64 m.kind,.int .i64 m.from_,.int .i64 m.to,.int .i64 m.bal,.int .i64 m.ix,.int .i64 m.kn,.string m.text,.slice (some ⟨mb,mo,none⟩) m.n mc]).toList) M3.out.cell) Tryz.underlying52 rfl Tryz.sz52 ?_;(case hw=>(go_simp;done))))|(go_at_call 69;go_must (refine (MOK.out V B3.out).mono ?_;rintro e w4 ⟨rfl,hb4⟩;have X4:=hid (HBV.out.below hb4 HBV.out.lt);have B4:=hid (B3.out.trans (hb4.mono B3.out.size));have M4:=hid (M3.out.below hb4 M3.out.lt);have Z4:=hid (Z3.out.below hb4 Z3.out.lt);have HG4:=hid (HG3.out.grow hb4);have z4:=hb4.size;clear hb4 Q3 M3 Z3 HG3 B3 q0 q1 q2 m2 qf qlt zlt xlt mlt;have xlt:=X4.out.lt;have zlt:=Z4.out.lt))|((with_reducible show wpList _ _ _ (⟨some 29,Op.load 38 _,_,_,_,_⟩::_) _ _);go_must (refine LD38 (rcC r p.A).toList X4.out.cell ?_))|((with_reducible show wpList _ _ _ (⟨none,Op.store 38 (Operand.tmp 4) _,_,_,_,_⟩::_) _ _);go_must (refine Zd rfl 38 _ _ rfl (w.1.size+1+1) (rcC r p.A).toList rfl rfl Z4.out rfl Tryz.sz38 (by simp [Value.oneCell']) ?_;intro Vz hr hfr hsv;have HBVz:=hid hr;have HFVz:=hid (FrP.of_fr (P:=fun q=>q=(w.1.size+1+1)) hfr (fun k h1 h2=>by omega));clear hr hfr hsv)))
     refine RZ (rcC r p.A).toList HBVz.out.cell ?_
     rw [OUT.out]
     exact ⟨p,rfl,(HG4.out.fr HFVz.out (fun k hk e=>by have:=HGE.out k hk;omega)).at_,fun k hk=>by have:=HGE.out k hk;omega,B4.out.trans (HFVz.out.below (B:=w.1.size) (fun k hk e=>by omega) (by omega))⟩
    ·skip
     have OUT:=hid (show outT r m=takR r m by unfold outT;rw [if_pos HBV0.out,if_pos (by unfold takB;rw [HUP.out,hmb];simp [ht])])
     have HMB:=hid hmb
     rw [hmb] at MOK
     have HVD:=hid (VdR.of HBV0.out)
     clear hmb
     have htz:(m.to==r.num)=true:=by simp [ht]
     clear ht
     have mark:Nat:=0
     have mark2:Nat:=0
     generalize outT r m=O at *
     go_enter Tryz.func19,Tryz.ntmps19
     go_wp2_with (first|((with_reducible show wpList _ _ _ (⟨some 6,_,_,_,_,_⟩::_) _ _);clear mark;go_must ((generalize (((w.alloc (.cells (rcC r A) 38)).alloc (.cells #[.int .i64 m.kind,.int .i64 m.from_,.int .i64 m.to,.int .i64 m.bal,.int .i64 m.ix,.int .i64 m.kn,.string m.text,.slice (some ⟨mb,mo,none⟩) m.n mc] 52)).alloc (.cells (rcL 0 0 false).toArray 38))=W at *);have z0lt:=Z0.out.lt))|((with_reducible show wpList _ _ _ (⟨some 6,Op.load 38 _,_,_,_,_⟩::_) _ _);go_must (refine LD38 (rcC r A).toList Q0.out.cell ?_))|(go_at_call 47;go_must (refine (hV.out W lo hi (ltr hhi HB0.out.size) HF.out HN.out (HC.out.below HB0.out hhi)).mono ?_;rintro e w1 ⟨rfl,hb1⟩;have B1:=hid (HB0.out.trans (hb1.mono HB0.out.size));have Q1:=hid (Q0.out.below hb1 Q0.out.lt);have M1:=hid (M0.out.below hb1 M0.out.lt);have Z1:=hid (Z0.out.below hb1 Z0.out.lt);have z1lt:w.1.size+1+1<w1.1.size:=Z1.out.lt;clear hb1 Q0 M0 Z0 HB0))|((with_reducible show wpList _ _ _ (⟨some 10,Op.load 38 _,_,_,_,_⟩::_) _ _);go_must (refine LD38 (rcC r A).toList Q1.out.cell ?_))|(go_at_call 48;go_must (refine (XT r A w1 lo hi (ltr hhi B1.out.size) HM.out (HC.out.below B1.out hhi)).mono ?_;rintro e w2 ⟨p,rfl,hg,htt,hac,hb0,hge,hb2⟩;have B2:=hid (B1.out.trans (hb2.mono B1.out.size));have Q2:=hid (Q1.out.below hb2 Q1.out.lt);have M2:=hid (M1.out.below hb2 M1.out.lt);have Z2:=hid (Z1.out.below hb2 Z1.out.lt);have HG2:=hid hg;have HTT:=hid htt;have HAC:=hid hac;have HB00:=hid hb0;have HGE:=hid (fun k hk=>ltl z1lt (hge k hk));have z2lt:=Z2.out.lt;have z12:=hb2.size;clear hg htt hac hb0 hge hb2 Q1 M1 Z1 B1))|((with_reducible show wpList _ _ _ (⟨none,Op.store 38 (Operand.tmp 5) _,_,_,_,_⟩::_) _ _);go_must (refine Zd rfl 38 _ _ rfl w2.1.size (rcC r p.A).toList rfl rfl (Bx.new w2 (rcL 0 0 false).toArray 38) rfl Tryz.sz38 (by simp [Value.oneCell']) ?_;intro V hr hfr hsv;have HBV:=hid hr;have HFV:=hid (FrP.of_fr (P:=fun q=>q=w2.1.size) hfr (fun k h1 h2=>by omega));clear hr hfr hsv;have hb3:Below w2.1.size w2 V:=(Zb w2 _).trans (HFV.out.below (B:=w2.1.size) (fun q hq e=>by omega) (by simp));have B3:=hid (B2.out.trans (hb3.mono B2.out.size));have Q3:=hid (Q2.out.below hb3 Q2.out.lt);have M3:=hid (M2.out.below hb3 M2.out.lt);have Z3:=hid (Z2.out.below hb3 Z2.out.lt);have HG3:=hid (HG2.out.grow hb3);have HLT:=hid HG2.out.at_.lt;have z3:=hb3.size;clear hb3 HFV Q2 M2 Z2 HG2 B2))|((with_reducible show wpList _ _ _ (⟨some 12,_,_,_,_,_⟩::_) _ _);clear mark2;go_must (obtain ⟨q0,q1,q2,q3,q4,q5,q6,q7,q8,q9,q10,q11,q12,q13,q14,q15,q16,q17⟩:=Ze Q3.out.cell;have qf:=Q3.out.free;have qlt:=Q3.out.lt;have zlt:=Z3.out.lt;have xlt:=HBV.out.lt;obtain ⟨m0,m1,m2,m3,m4,m5,m6,m7⟩:=Zy M3.out.cell;have mlt:=M3.out.lt;clear q3 q4 q5 q6 q7 q8 q9 q10 q11 q12 q13 q14 q15 q16 q17 m0 m1 m3 m4 m5 m6 m7;rw [HUP.out] at q2))|((with_reducible show wpList _ _ _ (⟨some 22,Op.load 52 _,_,_,_,_⟩::_) _ _);go_must (refine ZF ?hw 52 _ rfl (w.1.size+1) 0 rfl (#[.int .i64 m.kind,.int .i64 m.from_,.int .i64 m.to,.int .i64 m.bal,.int .i64 m.ix,.int .i64 m.kn,.string m.text,.slice (some ⟨mb,mo,none⟩) m.n mc]).toList _ (Holds.range (cs:=(#[.int .i64 m.kind,.int .i64 m.from_,.int .i64 m.to,.int .i64 m.bal,.int .i64 m.ix,.int .i64 m.kn,.string m.text,.slice (some ⟨mb,mo,none⟩) m.n mc]).toList) M3.out.cell) Tryz.underlying52 rfl Tryz.sz52 ?_;(case hw=>(go_simp;done))))|(go_at_call 69;go_must (refine (MOK.out V B3.out).mono ?_;rintro e w4 ⟨rfl,hb4⟩;have X4:=hid (HBV.out.below hb4 HBV.out.lt);have B4:=hid (B3.out.trans (hb4.mono B3.out.size));have M4:=hid (M3.out.below hb4 M3.out.lt);have Z4:=hid (Z3.out.below hb4 Z3.out.lt);have HG4:=hid (HG3.out.grow hb4);have z4:=hb4.size;clear hb4 Q3 M3 Z3 HG3 B3 q0 q1 q2 m2 qf qlt zlt xlt mlt;have xlt:=X4.out.lt;have zlt:=Z4.out.lt))|((with_reducible show wpList _ _ _ (⟨some 27,Op.load 52 _,_,_,_,_⟩::_) _ _);go_must (refine LD52 (#[.int .i64 m.kind,.int .i64 m.from_,.int .i64 m.to,.int .i64 m.bal,.int .i64 m.ix,.int .i64 m.kn,.string m.text,.slice (some ⟨mb,mo,none⟩) m.n mc]).toList M4.out.cell ?_))|(go_at_call 70;go_must (refine (takeInto_any w2.1.size m mb mo mc r p r.of w4 X4.out HG4.out (fun i hi=>by have:=HLT.out i hi;omega) HTT.out HAC.out HB00.out HVD.out HMB.out hmc hi2 (by omega) ((HMS.out.below B4.out hhi2).mono (zle _) (lrf _))).mono ?_;rintro e w5 ⟨rfl,p5,x5,g5,f5,s5⟩;have X5:=hid x5;have G5:=hid g5;have F5:=hid f5;have S5:=hid s5;have Z5:=hid (Z4.out.frP f5 (fun e=>by rcases e with e|e;omega;have:=HGE.out _ e;omega));have xlt5:=x5.lt;clear x5 g5 f5 s5 Z4 X4))|((with_reducible show wpList _ _ _ (⟨some 29,Op.load 38 _,_,_,_,_⟩::_) _ _);go_must (refine LD38 (rcC (takR r m) p5.A).toList X5.out.cell ?_))|((with_reducible show wpList _ _ _ (⟨none,Op.store 38 (Operand.tmp 4) _,_,_,_,_⟩::_) _ _);go_must (refine Zd rfl 38 _ _ rfl (w.1.size+1+1) (rcC (takR r m) p5.A).toList rfl rfl Z5.out rfl Tryz.sz38 (by simp [Value.oneCell']) ?_;intro Vz hr hfr hsv;have HBVz:=hid hr;have HFVz:=hid (FrP.of_fr (P:=fun q=>q=(w.1.size+1+1)) hfr (fun k h1 h2=>by omega));clear hr hfr hsv)))
     refine RZ (rcC (takR r m) p5.A).toList HBVz.out.cell ?_
     rw [OUT.out]
     have ge5:∀ k,rbs p5 (takR r m) k→w.1.size+1+1<k:=fun k hk=>by rcases S5.out k hk with h|h;exact HGE.out k h;omega
     exact ⟨p5,rfl,G5.out.fr HFVz.out (fun k hk e=>by have:=ge5 k hk;omega),fun k hk=>by have:=ge5 k hk;omega,B4.out.trans ((F5.out.below (B:=w.1.size) (fun k hk e=>by rcases e with e|e;omega;have:=HGE.out k e;omega) (by omega)).trans (HFVz.out.below (B:=w.1.size) (fun k hk e=>by omega) (by have:=F5.out.size;omega)))⟩
   ·skip
    have OUT:=hid (show outT r m=r by unfold outT;rw [if_pos HBV0.out,if_neg (by unfold takB;simp [ht])])
    have htz:(m.to==r.num)=false:=by simp;exact ht
    clear ht
    exact apGzf1
end Go.Proofs.YtokkbdlofbdljaaGreat
