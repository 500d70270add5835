import Derived.Test.YtokkbdlofbdljaaGreatVt
import Derived.Deep.DeepCutAuto
namespace Go.Proofs.YtokkbdlofbdljaaGreat
open Go.RowKit
set_option maxHeartbeats 16000000
theorem Fi {w w':World} {base e z n B:Nat} {v:Value} {xs:List Value} (h:w.ownsRow base e z v n xs) (hb:Below B w w') (hB:w.1.size≤B):w'.ownsRow base e z v n xs:=Yr h (FrP.of_below (P:=fun _=>False) (hb.mono hB)) (fun _ _ h=>h)
theorem Ix {n:Nat} (h:n≤1010):(n:Int)≤1048576:=by omega
theorem PG (num:Int) (m:Ms) (f:Nat→Ms) (hm:m.n=0):∀ k i,i<(YE num m k (0,f)).1→((YE num m k (0,f)).2 i).n=0
 | 0,i,hi=>absurd hi (nlz _)
 | k+1,i,hi=>by
  have ih:=PG num m f hm k
  by_cases e:(k:Int)+1=num
  ·have e2:YE num m (k+1) (0,f)=YE num m k (0,f):=if_pos e
   rw [e2] at hi ⊢
   exact ih i hi
  ·have e2:YE num m (k+1) (0,f)=((YE num m k (0,f)).1+1,updF (YE num m k (0,f)).2 (YE num m k (0,f)).1 (toM num m k)):=if_neg e
   rw [e2] at hi ⊢
   show (updF (YE num m k (0,f)).2 (YE num m k (0,f)).1 (toM num m k) i).n=0
   have hi':i<(YE num m k (0,f)).1+1:=hi
   by_cases ei:i=(YE num m k (0,f)).1
   ·rw [ei,Zm];exact hm
   ·rw [Zn _ _ ei];exact ih i (by omega)
theorem FM (bal:Int) (ws:Nat→ByteArray) (r:Rc):∀ j,(brR bal ws j r).ld=r.ld
 | 0=>rfl
 | j+1=>by
  have h:=FM bal ws r j
  rw [brR]
  split
  ·exact h
  ·exact h
theorem gol2_ld (r:Rc):(Xc r).ld=r.ld:=by
 have e:=Jf r r.sf.n
 have h1:(Ja r).ld=r.ld:=by show (Xs r r.sf.n).ld=_;rw [e]
 exact (FM _ _ _ _).trans h1
theorem EU {r:Rc} (hl:(tk5 r).ld=true):Kt r=Xc (tk5 r)∧ldS (tk5 r) (r.hn,r.hs)=((Ke r).hn,(Ke r).hs):=by
 have e1:Nm (tk5 r)=Xc (tk5 r):=if_pos hl
 have e2:Ke r=Pu (tk5 r) (tkS r):=if_pos hl
 refine ⟨?_,?_⟩
 ·unfold Kt
  rw [e1]
  exact if_pos (Or.inl ((gol2_ld _).trans hl))
 ·rw [e2]
  have hk:=NZ (tk5 r)
  rw [e1] at hk
  exact ldS_gol (tk5 r) (tkS r) (show r.num=_ from ((hk.1.trans (Ns r).1)).symm)
theorem Ej {r:Rc} (hl:(tk5 r).ld=false):Kt r=Nk (tk5 r)∧Ke r=tkS r:=by
 have e1:Nm (tk5 r)=tk5 r:=if_neg (by rw [hl];simp)
 refine ⟨?_,if_neg (by rw [hl];simp)⟩
 unfold Kt
 rw [e1]
theorem BdMs.isIn {w:World} {base:Nat} {ad:Option Addr} {cap:Nat} {k:Nat} {x:Nat→Ms} {A:Nat→Option Addr} {C hb:Nat→Nat} (h:BdMs w base (.slice ad k cap) k x A C hb):MssIn w base w.1.size ad k x:=by
 obtain ⟨ad',cap',g,e,hm,hge⟩:=h.done
 cases e
 exact hm.isIn (fun q hq=>⟨hge q hq,hm.blt hq⟩)
def Ow0 (b base:Nat) (w:World):Prop:=w.ownsRow base 52 8 (.slice (some ⟨b,0,none⟩) 0 0) 0 []
theorem Ow0.grown9 {w w':World} {b base:Nat} (h:Ow0 b base w) (hb:Below w.1.size w w'):Ow0 b base w':=Fi h hb (lrf _)
theorem ON (Y:World) (r:Rc) (p:RcP) (b base:Nat) (h:RcG Y r p) (ho:Ow0 b base Y) (hge:∀ k,rbs p r k→base≤k) (hb:∀ k,rbs p r k→k≠b) (hn:r.hn≤1000) (hbase:base≤Y.1.size) (ty:TypeId) :
  ∃ v' w',(Builtin.append_ #[35,35] ty #[.slice (some ⟨b,0,none⟩) 0 0,.slice p.A.ha r.hn p.A.hc]).run Tryz.prog Y=.ok v' w'∧BdMs w' base v' r.hn r.hs p.HA p.HC p.Hb∧FrP (fun q=>q=b) Y w'∧(∀ q,v'.ownBlock=some q→q=b∨Y.1.size≤q):=by
 obtain ⟨i0,hi0,hz0,hz1,hz2⟩:=info_parts Tryz.info52
 rcases Nat.eq_zero_or_pos r.hn with h0|h0
 ·have hc:SrcRow Y 0 0 p.A.ha (0*8) (fun _=>undef):=⟨fun j hj=>absurd hj (by omega),fun j hj=>absurd hj (by omega)⟩
  have hs:=hc.src (cap:=p.A.hc) (z:=8) (by omega) Tryz.underlying35
  have hrun:=run_append_room_src (P:=Tryz.prog) Y 35 35 ty 52 i0 Tryz.underlying35 hi0 b 0 0 0 (.slice p.A.ha 0 p.A.hc) 0 [] (by rw [hz1];simpa [Zg] using hs) (lrf _) (fun j hj=>absurd hj (nlz _)) (fun j hj=>absurd hj (nlz _))
  refine ⟨_,_,by rw [h0];exact hrun,?_,?_,?_⟩
  ·rw [h0]
   exact ⟨⟨fun _=>undef,ho,fun i hi=>absurd hi (nlz _)⟩,fun i hi=>absurd hi (nlz _),fun i hi=>absurd hi (nlz _),fun i hi=>absurd hi (nlz _),fun i j hi=>absurd hi (nlz _)⟩
  ·exact FrP.refl _ _
  ·intro q hq
   have e:some b=some q:=hq
   cases e
   exact Or.inl rfl
 ·obtain ⟨c,rr,hat⟩:=h.at_.o2.row h0
  have had:=h.at_.o2.addr h0
  obtain ⟨v',w',hr,h2,h3,h4,h5⟩:=run_append_own_at (P:=Tryz.prog) Y base 35 ty 52 i0 _ 8 88 Tryz.underlying35 hi0 hz0 hz1 hz2 rfl (by decide) (.slice (some ⟨b,0,none⟩) 0 0) 0 [] ho ⟨p.g2,0,none⟩ r.hn p.A.hc (Zg (r.hn*8) c) (Zj _ _) (fun j u hj=>by
   obtain ⟨h6,rfl⟩:=ZP hj
   rw [Addr.add_lit,Nat.zero_add]
   exact rr.cell j h6) (fun v hv=>by
   obtain ⟨j,hj,rfl⟩:=List.mem_map.1 hv
   exact NJ hat j (by simpa using hj)) (by unfold maxLen;omega) (by omega) hbase
  have F:FrP (fun q=>q=b) Y w':=(FrP.of_grown h3).mono (fun q hq=>by
   have e:some b=some q:=hq
   cases e
   rfl)
  refine ⟨v',w',by rw [had];exact hr,?_,F,fun q hq=>?_⟩
  ·rw [Nat.zero_add,List.nil_append] at h2
   exact BdMs.held (h.fr F (fun k hk e=>hb k hk e)) h2 hat hge (fun q hq e=>by
    rcases h5 with h5|h5
    ·rw [h5] at hq
     have e2:some b=some q:=hq
     cases e2
     exact hb _ e rfl
    ·rw [h5] at hq
     cases hq
     have:=h.at_.lt _ e
     omega)
  ·rcases h5 with h5|h5
   ·rw [h5] at hq
    have e2:some b=some q:=hq
    cases e2
    exact Or.inl rfl
   ·rw [h5] at hq
    cases hq
    exact Or.inr (lrf _)
set_option maxRecDepth 100000 in
theorem Oe (r:Rc) (A:RcA) (w:World) (lo hi:Nat) (hhi:hi≤w.1.size) (hm:ZW r) (hf:ZR r) (hc:RcIn w lo hi r A) (hv:rcB r=true) (hup:r.up=true) :
  Calls Tryz.prog 7 #[rcV r A] w fun e w'=>∃ A' ad cap,e=.returned (.tuple #[rcV (Kt r) A',.slice ad (Ke r).hn cap])∧RcIn w' w.1.size w'.1.size (Kt r) A'∧MssIn w' w.1.size w'.1.size ad (Ke r).hn (Ke r).hs∧Below w.1.size w w':=by
 have HM:=hid hm
 have HF:=hid hf
 have HC:=hid hc
 have hV:=hid (Uv r A)
 rw [hv] at hV
 have HVD:=hid (Ih hv)
 have HTW:=hid (tkW_of hv)
 have HUP:=hid hup
 have hB0:Below w.1.size w (((w.alloc (.cells (rcC r A) 38)).alloc (.cells (rcL 0 0 false).toArray 38)).alloc (.cells #[] 52)):=((Zb _ _).alloc (by simp) _).alloc (by simp;omega) _
 have hN2:=Bx.new3 w (rcC r A) (rcL 0 0 false).toArray #[] 38 38 52
 have Q0:=hid hN2.1
 have Z0:=hid hN2.2.1
 have OW0:Hid (Ow0 (w.1.size+1+1) w.1.size (((w.alloc (.cells (rcC r A) 38)).alloc (.cells (rcL 0 0 false).toArray 38)).alloc (.cells #[] 52))):=hid (by
  have:=World.ownsRow_made (base:=w.1.size) (e:=52) (size:=8) ((w.alloc (.cells (rcC r A) 38)).alloc (.cells (rcL 0 0 false).toArray 38)) #[] 0 (by simp;omega) (zle _) rfl
  simpa [Ow0] using this)
 have z2lt:w.1.size+1+1<(((w.alloc (.cells (rcC r A) 38)).alloc (.cells (rcL 0 0 false).toArray 38)).alloc (.cells #[] 52)).1.size:=by simp
 have HB0:=hid hB0
 clear hm hf hc hN2 hB0 hv hup
 have mark:Nat:=0
 go_enter Tryz.func7,Tryz.ntmps7
 go_upto_region 8 with (first|((with_reducible show wpList _ _ _ (⟨some 12,_,_,_,_,_⟩::_) _ _);clear mark;go_must ((generalize (((w.alloc (.cells (rcC r A) 38)).alloc (.cells (rcL 0 0 false).toArray 38)).alloc (.cells #[] 52))=W at *);have z0lt:=Z0.out.lt))|((with_reducible show wpList _ _ _ (⟨some 12,Op.load 38 _,_,_,_,_⟩::_) _ _);go_must (refine LD38 (rcC r A).toList Q0.out.cell ?_))|(go_at_call 30;go_must (refine (hV.out W lo hi (ltr hhi HB0.out.size) HF.out (HC.out.below HB0.out hhi)).mono ?_;rintro e w1 ⟨rfl,hb1⟩;have B1:=hid (HB0.out.trans (hb1.mono HB0.out.size));have Q1:=hid (Q0.out.below hb1 Q0.out.lt);have Z1:=hid (Z0.out.below hb1 Z0.out.lt);have OW1:=hid (OW0.out.grown9 hb1);have z1lt:w.1.size+1+1<w1.1.size:=ltl z2lt hb1.size;clear hb1 Q0 Z0 HB0 OW0))|((with_reducible show wpList _ _ _ (⟨some 17,Op.load 38 _,_,_,_,_⟩::_) _ _);go_must (refine LD38 (rcC r A).toList Q1.out.cell ?_))|(go_at_call 31;go_must (refine (Y8 r A w1 lo hi (ltr hhi B1.out.size) HM.out (HC.out.below B1.out hhi)).mono ?_;rintro e w2 ⟨p,rfl,hat,hws,hrm,hge,hb2,hcp⟩;have B2:=hid (B1.out.trans (hb2.mono B1.out.size));have Q2:=hid (Q1.out.below hb2 Q1.out.lt);have Z2:=hid (Z1.out.below hb2 Z1.out.lt);have OW2:=hid (OW1.out.grown9 hb2);have HG2:=hid (RcG.mk hat hrm);have HDA:=hid hws.da;have HCP:=hid hcp;have HGE:=hid (fun k hk=>ltl z1lt (hge k hk));have z2l:=Z2.out.lt;have z12:=hb2.size;clear hat hws hrm hge hb2 hcp Q1 Z1 B1 OW1))|((with_reducible show wpList _ _ _ (⟨none,Op.store 38 (Operand.tmp 5) _,_,_,_,_⟩::_) _ _);go_must (refine Zd rfl 38 _ _ rfl w2.1.size (rcC r p.A).toList rfl rfl (Bx.new w2 (rcL 0 0 false).toArray 38) rfl Tryz.sz38 (by simp [Value.oneCell']) ?_;intro V hr hfr hsv;have HBV:=hid hr;have HFV:=hid (FrP.of_fr (P:=fun q=>q=w2.1.size) hfr (fun k h1 h2=>by omega));clear hr hfr hsv;have hb3:Below w2.1.size w2 V:=(Zb w2 _).trans (HFV.out.below (B:=w2.1.size) (fun q hq e=>by omega) (by simp));have B3:=hid (B2.out.trans (hb3.mono B2.out.size));have Q3:=hid (Q2.out.below hb3 Q2.out.lt);have Z3:=hid (Z2.out.below hb3 Z2.out.lt);have OW3:=hid (OW2.out.grown9 hb3);have HG3:=hid (HG2.out.grow hb3);have z3lt:=Z3.out.lt;have q3lt:=Q3.out.lt;have HLT:=hid HG2.out.at_.lt;have u2:V.cell? ⟨w.1.size,2,none⟩=some (.bool true):=(Q3.out.cell 2).trans (congrArg (fun b=>some (Value.bool b)) HUP.out);obtain ⟨q0,q1,q2,q3,q4,q5,q6,q7,q8,q9,q10,q11,q12,q13,q14,q15,q16,q17⟩:=Ze HBV.out.cell;have qf:=HBV.out.free;have qlt:=HBV.out.lt;clear q0 q1 q2 q9 q10 q11 q12 q13 q14 q15 q16 q17;clear hb3 Q2 Z2 B2 HFV OW2))|(go_at_call 32;go_must (refine (N2 r.dk p.A.da p.A.dc V 0 V.1.size (lrf _) (by have:=HM.out.dk;omega) (HG3.out.at_.o1.isIn (fun h0=>⟨zle _,Zr HG3.out.at_ (j:=1) (by omega) ⟨h0,rfl⟩⟩))).mono ?_;rintro e w4 ⟨a0,c0,g0,rfl,o0,ge0,lt0,hb4,_⟩;have O0:=hid o0;have LT0:=hid lt0;have HB4:=hid hb4;have BV4:=hid (HBV.out.below hb4 HBV.out.lt);clear o0 lt0 hb4 q3 q4 q5 q6 q7 q8 qf u2;have q3:w4.cell? ⟨w2.1.size,3,none⟩=some (.int .i64 r.sf.pr):=BV4.out.cell 3;have q4:w4.cell? ⟨w2.1.size,4,none⟩=some (.int .i64 r.sf.kn):=BV4.out.cell 4;have q5:w4.cell? ⟨w2.1.size,5,none⟩=some (.slice p.A.sa r.sf.n p.A.sc):=BV4.out.cell 5;have qf:=BV4.out.free;have qlt4:=BV4.out.lt)))
 have zV:=HB4.out.size
 have B5:Hid (Bx (((w4.setCell ⟨w2.1.size,3,none⟩ (.int .i64 r.dk.pr)).setCell ⟨w2.1.size,4,none⟩ (.int .i64 r.dk.kn)).setCell ⟨w2.1.size,5,none⟩ (.slice a0 r.dk.n c0)) w2.1.size (rcC (Kl r) (Yg p a0 c0 g0).A)):=by
  have b1:=BV4.out.to (J7 BV4.out.cell (.int .i64 r.dk.pr))
  have b2:=b1.to (hset4 b1.cell (.int .i64 r.dk.kn))
  exact hid (b2.to (hset5 b2.cell (.slice a0 r.dk.n c0)))
 have F5:Hid (FrP (fun q=>q=w2.1.size) w4 (((w4.setCell ⟨w2.1.size,3,none⟩ (.int .i64 r.dk.pr)).setCell ⟨w2.1.size,4,none⟩ (.int .i64 r.dk.kn)).setCell ⟨w2.1.size,5,none⟩ (.slice a0 r.dk.n c0))):=hid ((((FrP.refl (fun q=>q=w2.1.size) w4).setCell (p:=⟨w2.1.size,3,none⟩) rfl _).setCell (p:=⟨w2.1.size,4,none⟩) rfl _).setCell (p:=⟨w2.1.size,5,none⟩) rfl _)
 obtain ⟨y5w,hy5w⟩:∃ y5w,(((w4.setCell ⟨w2.1.size,3,none⟩ (.int .i64 r.dk.pr)).setCell ⟨w2.1.size,4,none⟩ (.int .i64 r.dk.kn)).setCell ⟨w2.1.size,5,none⟩ (.slice a0 r.dk.n c0))=y5w:=⟨_,rfl⟩
 rw [hy5w] at B5 F5 ⊢
 clear hy5w q3 q4 q5 qf BV4 qlt4
 have zY:=F5.out.size
 have hrl:∀ k,rbs p r k→k<w2.1.size:=HLT.out
 have G5:Hid (RcG y5w (Kl r) (Yg p a0 c0 g0)):=hid (((HG3.out.grow HB4.out).fr F5.out (fun k hk e=>by have:=hrl k hk;omega)).safeC (L:=V.1.size) (fun k hk=>by have:=hrl k hk;omega) (O0.out.frP F5.out (fun h0=>⟨by omega,LT0.out h0⟩)) (fun h0=>⟨ge0,by have:=LT0.out h0;omega⟩))
 have Z5:=hid ((Z3.out.below HB4.out z3lt).frP F5.out (by omega))
 have OW5:Hid (Ow0 (w.1.size+1+1) w.1.size y5w):=hid (Yr (OW3.out.grown9 HB4.out) F5.out (fun g hg=>by
  have e:some (w.1.size+1+1)=some g:=hg
  cases e
  omega))
 have BL5:=hid ((B3.out.trans (HB4.out.mono B3.out.size)).trans (F5.out.below (B:=w.1.size) (fun q hq e=>by omega) (by have:=B3.out.size;omega)))
 have RB5:Hid (∀ k,rbs (Yg p a0 c0 g0) (Kl r) k→w.1.size+1+1<k∧k≠w2.1.size):=hid (fun k ⟨j,hj,hk⟩=>by
  rcases U5 hj hk with ⟨_,h0,rfl⟩|⟨_,h1⟩
  ·exact ⟨by omega,by omega⟩
  ·have h2:=HGE.out k ⟨j,hj,h1⟩
   have h3:=hrl k ⟨j,hj,h1⟩
   exact ⟨h2,by omega⟩)
 have CP5:Hid (Gq (Kl r) (Yg p a0 c0 g0)):=hid ⟨HCP.out.yl,HCP.out.al,HCP.out.fl,HCP.out.bl,HCP.out.bs⟩
 have DA5:Hid (∃ g,(Yg p a0 c0 g0).A.da=some ⟨g,0,none⟩):=HDA
 clear O0 LT0 HB4 F5 Z3 OW3 B3 Q3 HG3 HG2 HBV HCP HDA HLT HGE hV
 obtain ⟨p5,hp5⟩:∃ p5,Yg p a0 c0 g0=p5:=⟨_,rfl⟩
 rw [hp5] at B5 G5 RB5 CP5 DA5
 clear hp5
 obtain ⟨X,hX⟩:∃ X,w2.1.size=X:=⟨_,rfl⟩
 rw [hX] at B5 RB5 ⊢
 have XL:w.1.size+1+1<X:=by omega
 have HAP:=hid (fun ty=>ON y5w (Kl r) p5 (w.1.size+1+1) w.1.size G5.out OW5.out (fun k hk=>by have:=(RB5.out k hk).1;omega) (fun k hk=>by have:=(RB5.out k hk).1;omega) (by have:=HVD.out.vd.lim.hn;show r.hn≤1000;omega) BL5.out.size ty)
 have q9:y5w.cell? ⟨X,9,none⟩=some (.slice p5.A.ha r.hn p5.A.hc):=B5.out.cell 9
 have lX:=B5.out.lt
 clear hX z12 z2l zV zY z3lt q3lt qlt hrl ge0 z1lt
 go_upto_region 9 with ((with_reducible show wpList _ _ _ (⟨some 31,_,_,_,_,_⟩::_) _ _);go_must (obtain ⟨o1,y6w,hrun,hbd,hfr,how⟩:=HAP.out 35;refine Zq rfl _ _ 35 35 rfl _ _ _ _ rfl rfl hrun ?_;have BD6:=hid hbd;have FR6:=hid hfr;have OW6:=hid how;clear hrun hbd hfr how))
 have Z6:=hid (Z5.out.frP FR6.out (by omega))
 have B6:=hid (B5.out.frP FR6.out (by omega))
 have G6:=hid (G5.out.fr FR6.out (fun k hk e=>by have:=(RB5.out k hk).1;omega))
 have z56:=FR6.out.size
 have BL6:=hid (BL5.out.trans (FR6.out.below (B:=w.1.size) (fun q hq e=>by omega) BL5.out.size))
 have OWN6:Hid (∀ q,o1.ownBlock=some q→q≠X∧q≠w.1.size+1∧¬rbs p5 (Kl r) q):=hid (fun q hq=>by
  rcases OW6.out q hq with h|h
  ·exact ⟨by omega,by omega,fun e=>by have:=(RB5.out q e).1;omega⟩
  ·exact ⟨by omega,by omega,fun e=>by have:=G5.out.at_.lt q e;omega⟩)
 clear q9 HAP Z5 B5 G5 BL5 OW5 OW6 FR6
 have q9:y6w.cell? ⟨X,9,none⟩=some (.slice p5.A.ha r.hn p5.A.hc):=B6.out.cell 9
 have f9:=B6.out.free 9
 have lX6:=B6.out.lt
 have lX7:X<y6w.1.size+1:=by omega
 go_wp2
 have SA0:StA w X (tk2 r) (nhP p5 (some ⟨y6w.1.size,0,none⟩)) o1 r.hn r.hs p5.HA p5.HC p5.Hb (y6w.setCell ⟨X,9,none⟩ (.slice (some ⟨y6w.1.size,0,none⟩) 0 0)):=by
  have FA:=(FrP.refl (fun q=>q=X) y6w).setCell (p:=⟨X,9,none⟩) rfl (.slice (some ⟨y6w.1.size,0,none⟩) 0 0)
  have gA:=G6.out.fr FA (fun k hk e=>(RB5.out k hk).2 e)
  refine ⟨B6.out.to (hset9 B6.out.cell _),Z6.out.frP FA (by omega),noHA_g gA _,by omega,by omega,fun q ⟨j,hj,hk⟩=>?_,BD6.out.fr2 FA (fun q hq e=>(OWN6.out q hq).1 e) (fun i hi h0 e=>(RB5.out _ ⟨2,by omega,Or.inr ⟨i,hi,h0,rfl⟩⟩).2 e),fun i hi h0=>⟨fun ⟨j,hj,hk⟩=>?_,?_,?_⟩,fun q hq=>⟨(OWN6.out q hq).1,(OWN6.out q hq).2.1⟩,BL6.out.trans (FA.below (B:=w.1.size) (fun q hq e=>by omega) BL6.out.size)⟩
  ·have h1:=(Fd hj hk).2
   have h2:=RB5.out q ⟨j,hj,h1⟩
   exact ⟨h2.2,by omega,fun e=>(OWN6.out q e).2.2 ⟨j,hj,h1⟩,by omega⟩
  ·have h1:=Fd hj hk
   exact h1.1 (G6.out.at_.ap j 2 _ hj (by omega) h1.2 (Or.inr ⟨i,hi,h0,rfl⟩))
  ·exact (RB5.out _ ⟨2,by omega,Or.inr ⟨i,hi,h0,rfl⟩⟩).2
  ·have h2:=(RB5.out _ ⟨2,by omega,Or.inr ⟨i,hi,h0,rfl⟩⟩).1
   show p5.Hb i≠_
   omega
 have SA:=hid ((SA0.grow (Zb _ (.cells #[] 52))).grow (Zb _ (.cells #[] 9)))
 obtain ⟨y7w,hy7w⟩:∃ y7w,(((y6w.setCell ⟨X,9,none⟩ (.slice (some ⟨y6w.1.size,0,none⟩) 0 0)).alloc (.cells #[] 52)).alloc (.cells #[] 9))=y7w:=⟨_,rfl⟩
 rw [hy7w] at SA ⊢
 have CP7:Hid (Gq (tk2 r) (nhP p5 (some ⟨y6w.1.size,0,none⟩))):=hid ⟨CP5.out.yl,CP5.out.al,CP5.out.fl,CP5.out.bl,CP5.out.bs⟩
 have DA7:Hid (∃ g,(nhP p5 (some ⟨y6w.1.size,0,none⟩)).A.da=some ⟨g,0,none⟩):=DA5
 obtain ⟨p7,hp7⟩:∃ p7,nhP p5 (some ⟨y6w.1.size,0,none⟩)=p7:=⟨_,rfl⟩
 rw [hp7] at SA CP7 DA7
 clear hy7w hp7 SA0 q9 f9 B6 Z6 G6 BD6 BL6 OWN6 CP5 DA5 RB5 lX lX6 lX7 z56
 have FB:=hid (show ∃ F,F=hasB r.dk.kn.toNat (fun i=>(r.dk.s i).text) from ⟨_,rfl⟩)
 obtain ⟨F,hF⟩:=FB.out
 have HFE:=hid hF
 clear hF FB
 go_loopw [6,7] (fun v i wr=>∃ (j:Nat) (ad:Option Addr) (g cap:Nat),v=.slice ad (drp F r.ws j).1 cap∧i=.int .i64 (j:Int)∧j≤r.wn∧Hid (Below y7w.1.size y7w wr)∧Hid (Rw wr ad g (drp F r.ws j).1 cap 1 (fun t=>.string ((drp F r.ws j).2 t)))∧Hid (0<cap→y7w.1.size≤g)) (fun _ i _=>r.wn-(intOf i).toNat)
 case atStart=>exact ⟨0,_,0,0,rfl,rfl,zle _,hid (br _ _),hid (Rw.none _ _ _ _ _),hid (fun h=>absurd h (Nat.lt_irrefl _))⟩
 case round=>
  obtain ⟨j,ad,g,cap,rfl,rfl,hj,HB,RW,GF⟩:=hrel
  have SW:=hid (SA.out.grow HB.out)
  have c10:wr.cell? ⟨X,10,none⟩=some (.slice p7.A.wa r.wn p7.A.wc):=SW.out.bX.cell 10
  by_cases hjn:j<r.wn
  ·obtain ⟨off,had,hrow⟩:=SW.out.g.at_.o3.row (show 0<(tk2 r).wn from Nat.lt_of_le_of_lt (zle _) hjn)
   have cg:=(hrow j hjn).1
   have hgl:p7.g3<wr.1.size:=Zr SW.out.g.at_ (j:=3) (by omega) ⟨show r.wn≠0 by omega,rfl⟩
   rw [had] at c10
   have hkb:=HVD.out.vd.ack
   obtain ⟨kn,hkn⟩:∃ kn:Nat,r.dk.kn=(kn:Int):=⟨r.dk.kn.toNat,by have:=hkb.k0;omega⟩
   have hkn2:r.dk.kn.toNat=kn:=by omega
   have hkd:kn≤r.dk.n:=by have:=hkb.k1;omega
   have hd60:=hkb.dn
   have c7:wr.cell? ⟨X,7,none⟩=some (.int .i64 (kn:Int)):=(SW.out.bX.cell 7).trans (congrArg (fun b=>some (Value.int .i64 b)) hkn)
   have HAS:=hid (fun (Y:World) (hb:Below wr.1.size wr Y)=>(has_any kn r.dk.s p7.A.da p7.A.dc (r.ws j) Y 0 Y.1.size (by omega) (fun i hi=>HVD.out.vd.bal i (by rw [hkn2];exact hi)) (fun i hi=>(((SW.out.g.grow hb).at_.o1.isIn (fun h0=>⟨zle _,(SW.out.g.grow hb).at_.lt _ ⟨1,by omega,h0,rfl⟩⟩)) i (show i<r.dk.n by omega)))).mono (fun e w' h=>(⟨h.1,h.2▸br _ _⟩:e=.returned (.bool (hasB kn (fun i=>(r.dk.s i).text) (r.ws j)))∧Below Y.1.size Y w')))
   have HFJ:=hid (show F (r.ws j)=hasB kn (fun i=>(r.dk.s i).text) (r.ws j) by rw [HFE.out,hkn2])
   have C10:=hid c10
   have CG:=hid cg
   have C7:=hid c7
   have HJN:=hid hjn
   have hwn:r.wn≤1000:=by have:=HVD.out.vd.lim.wn;omega
   have ST:Hid (drp F r.ws (j+1)=if F (r.ws j)=true then drp F r.ws j else ((drp F r.ws j).1+1,updF (drp F r.ws j).2 (drp F r.ws j).1 (r.ws j))):=hid rfl
   have DLE:=UZ F r.ws j
   clear hkn hkn2 hkb had hrow cg c7
   cases hh:hasB kn (fun i=>(r.dk.s i).text) (r.ws j) with
   | true=>
    rw [hh] at HAS HFJ
    have EQ:=hid (show drp F r.ws (j+1)=drp F r.ws j by rw [ST.out,if_pos HFJ.out])
    clear hh ST
    go_wp2
    refine Ok _ _ _ _ _ _ _ _ _ _ _ _ _ _ _ _ _ _ _ _ _ _ _ _ _ _ _ _ _ _ _ _ _ _ _ _ _ _ _ _ _ _ _ _ _ _ _ _ _ _ _ _ _ _ _ _ _ _ _ _ _ _ _ _ _ _ _ _ _ _ _ _ _ _ _ _ _ _ _ _ _ _ _ _ _ _ _ _ _ _ _ _ _ _ _ _ _ _ _ _ _ _ _ _ _ _ _ _ _ _ _ _ _ _ _ _ _ _ _ _ _ _ _ _ _ _ _ _ _ _ _ _ _ _ _ _ _ _ _ _ _ _ _ _ _ _ _ X p7.g3 off j r.wn p7.A.wc kn true (r.ws j) (tk2 r) p7 wr SW.out.bX hgl HJN.out hwn hkd SW.out.g.rm.dl (Or.inl DA7.out) C7.out C10.out CG.out HAS.out _ ?_
    rintro t9 v9 X9 ⟨rfl,hb9⟩
    have HB9:=hid (HB.out.trans (hb9.mono HB.out.size))
    have RW9:=hid (RW.out.grow hb9)
    clear hb9 c10
    go_wp2
    go_roundw
    case rel=>exact ⟨j+1,ad,g,cap,by rw [EQ.out],by go_num,HJN.out,HB9,by rw [EQ.out];exact RW9,GF⟩
    case measure=>have:=HJN.out;simp [intOf];omega
   | false=>
    rw [hh] at HAS HFJ
    have EQ:=hid (show drp F r.ws (j+1)=((drp F r.ws j).1+1,updF (drp F r.ws j).2 (drp F r.ws j).1 (r.ws j)) by rw [ST.out,if_neg (by rw [HFJ.out];simp)])
    clear hh ST
    go_wp2
    refine Ok _ _ _ _ _ _ _ _ _ _ _ _ _ _ _ _ _ _ _ _ _ _ _ _ _ _ _ _ _ _ _ _ _ _ _ _ _ _ _ _ _ _ _ _ _ _ _ _ _ _ _ _ _ _ _ _ _ _ _ _ _ _ _ _ _ _ _ _ _ _ _ _ _ _ _ _ _ _ _ _ _ _ _ _ _ _ _ _ _ _ _ _ _ _ _ _ _ _ _ _ _ _ _ _ _ _ _ _ _ _ _ _ _ _ _ _ _ _ _ _ _ _ _ _ _ _ _ _ _ _ _ _ _ _ _ _ _ _ _ _ _ _ _ _ _ _ _ X p7.g3 off j r.wn p7.A.wc kn false (r.ws j) (tk2 r) p7 wr SW.out.bX hgl HJN.out hwn hkd SW.out.g.rm.dl (Or.inl DA7.out) C7.out C10.out CG.out HAS.out _ ?_
    rintro t9 v9 X9 ⟨rfl,hb9⟩
    have HB9:=hid (HB.out.trans (hb9.mono HB.out.size))
    have RW9:=hid (RW.out.grow hb9)
    have cg:X9.cell? ⟨p7.g3,off+j,none⟩=some (.string (r.ws j)):=(hb9.cell (p:=⟨p7.g3,off+j,none⟩) hgl).trans CG.out
    have d10:X9.cell? ⟨X,10,none⟩=some (.slice (some ⟨p7.g3,off,none⟩) r.wn p7.A.wc):=(hb9.cell (p:=⟨X,10,none⟩) SW.out.bX.lt).trans C10.out
    have lx9:=ltl SW.out.bX.lt hb9.size
    have lg9:=ltl hgl hb9.size
    clear hb9 c10
    go_wp2_with ((with_reducible show wpList _ _ _ (⟨some 63,_,_,_,_,_⟩::_) _ _);go_must (obtain ⟨ad2,cap2,g2,X10,hrun,hrw,hfr,hor⟩:=KA (P:=Tryz.prog) (X9.alloc (.cells #[.string (r.ws j)] 9)) 26 26 9 1 16 (.string ByteArray.empty) Tryz.underlying26 Tryz.info9 (by omega) rfl ad g (drp F r.ws j).1 cap (fun t=>.string ((drp F r.ws j).2 t)) (RW9.out.grow (Zb _ _)) (fun _ _=>rfl) X9.1.size (X9.1.size+1) (some ⟨X9.1.size,0,none⟩) 1 1 (fun _=>.string (r.ws j)) ⟨fun i hi=>⟨X9.1.size,0,rfl,lrf _,Nat.lt_succ_self _,by (obtain rfl:i=0:=(by omega));simp⟩,fun _ _=>rfl⟩ (by omega) (by omega) (by omega);refine Zq rfl _ _ 26 26 rfl _ _ _ _ rfl rfl hrun ?_;have RWN:=hid hrw;have FRN:=hid hfr;have ORN:=hid hor;clear hrun hrw hfr hor))
    have z79:=HB9.out.size
    have HBN:Hid (Below y7w.1.size y7w X10):=hid ((HB9.out.alloc z79 _).trans (FRN.out.below (B:=y7w.1.size) (fun q hq e=>by have h1:=GF.out e.1;have h2:q=g:=e.2;omega) (by simp;omega)))
    have GFN:Hid (0<cap2→y7w.1.size≤g2):=hid (fun _=>by
     rcases ORN.out with h|h
     ·rw [h.2];exact GF.out h.1
     ·simp at h
      omega)
    have RWM:Hid (Rw X10 ad2 g2 (drp F r.ws (j+1)).1 cap2 1 (fun t=>.string ((drp F r.ws (j+1)).2 t))):=hid (by
     rw [EQ.out]
     refine ⟨RWN.out.addr,RWN.out.le,RWN.out.room,fun t ht=>?_⟩
     rw [RWN.out.cell t ht]
     show some (XD (fun t=>Value.string ((drp F r.ws j).2 t)) ((drp F r.ws j).1*1) (fun _=>.string (r.ws j)) t)=some (Value.string (updF (drp F r.ws j).2 (drp F r.ws j).1 (r.ws j) t))
     unfold XD
     have ht':t<(drp F r.ws j).1+1:=by have:t<((drp F r.ws j).1+1)*1:=ht;omega
     by_cases e:t=(drp F r.ws j).1
     ·rw [if_neg (by omega),e,Zm]
     ·rw [if_pos (by omega),Zn _ _ e])
    have EQ1:=hid (show (drp F r.ws (j+1)).1=(drp F r.ws j).1+1 by rw [EQ.out])
    clear RWN FRN ORN RW9 cg d10
    go_roundw
    case rel=>exact ⟨j+1,ad2,g2,cap2,by rw [EQ1.out],by go_num,HJN.out,HBN,RWM,GFN⟩
    case measure=>have:=HJN.out;simp [intOf];omega
  ·have hje:j=r.wn:=by omega
   subst hje
   have f10:=SW.out.bX.free 10
   have q17:wr.cell? ⟨X,17,none⟩=some (.int .i64 r.hd):=SW.out.bX.cell 17
   have lXr:=SW.out.bX.lt
   go_upto_if 68 with fail
   have DR:Hid (Uw (tk2 r)=wsR (tk2 r) (drp F r.ws r.wn).1 (drp F r.ws r.wn).2):=hid (by rw [HFE.out];rfl)
   have S8:Hid (StA w X (Uw (tk2 r)) (wsP p7 ad cap g) o1 r.hn r.hs p5.HA p5.HC p5.Hb (wr.setCell ⟨X,10,none⟩ (.slice ad (drp F r.ws r.wn).1 cap))):=hid (by
    rw [DR.out]
    have FX:=(FrP.refl (fun q=>q=X) wr).setCell (p:=⟨X,10,none⟩) rfl (.slice ad (drp F r.ws r.wn).1 cap)
    have nX:0<cap→¬g=X:=fun h0 e=>by have h1:=GF.out h0;have h2:=SA.out.bX.lt;omega
    have rwX:=RW.out.fr FX (fun h0=>nX h0)
    have z7:=HB.out.size
    have gX:=SW.out.g.fr FX (fun k hk e=>(SW.out.nr k hk).1 e)
    refine SA.out.step ((FrP.of_below HB.out).trans (FX.mono (fun q hq=>Or.inr hq))) (SW.out.bX.to (SW.out.bX.cell.set (i:=10) (by simp) _)) (gX.wsNew (rw_strs rwX) (fun h0=>?_)) (fun q ⟨j,hj,hk⟩=>?_)
    ·have hc0:0<cap:=ltl (Nat.pos_of_ne_zero h0) RW.out.le
     exact ⟨(rwX.room hc0).lt,fun e=>by have h1:=GF.out hc0;have h2:=SA.out.g.at_.lt g e;omega⟩
    ·rcases Ir hj hk with ⟨_,h0,rfl⟩|⟨_,h1⟩
     ·exact Or.inr (GF.out (ltl (Nat.pos_of_ne_zero h0) RW.out.le))
     ·exact Or.inl ⟨j,hj,h1⟩)
   have CP8:Hid (Gq (tk4 r) (wsP p7 ad cap g)):=hid ⟨CP7.out.yl,CP7.out.al,CP7.out.fl,CP7.out.bl,CP7.out.bs⟩
   have DA8:Hid (∃ g1,(wsP p7 ad cap g).A.da=some ⟨g1,0,none⟩):=DA7
   obtain ⟨y8w,hy8w⟩:∃ y8w,wr.setCell ⟨X,10,none⟩ (.slice ad (drp F r.ws r.wn).1 cap)=y8w:=⟨_,rfl⟩
   have q17':y8w.cell? ⟨X,17,none⟩=some (.int .i64 r.hd):=by rw [hy8w] at S8;exact S8.out.bX.cell 17
   rw [hy8w] at S8 ⊢
   obtain ⟨p8,hp8⟩:∃ p8,wsP p7 ad cap g=p8:=⟨_,rfl⟩
   rw [hp8] at S8 CP8 DA8
   clear hy8w hp8 c10 f10 q17 lXr SA SW HB RW GF DR CP7 DA7 HFE
   have hd0:=HVD.out.hd
   go_cut [] (fun wx=>StA w X (tk4 r) p8 o1 r.hn r.hs p5.HA p5.HC p5.Hb wx)
   case first=>
    have lX8:=S8.out.bX.lt
    have f17:=S8.out.bX.free 17
    by_cases h1:r.hd<1000000
    ·have TE:Hid (tk4 r = { Uw (tk2 r) with hd:=r.hd+1 }):=hid (by
      show ({ Uw (tk2 r) with hd:=if 1000000<r.hd+1 then 1000000 else r.hd+1 } : Rc)=_
      rw [if_neg (by omega)])
     have hw:IntKind.i64.wrap (r.hd+1)=r.hd+1:=by rw [IntKind.wrap_i64];omega
     go_wp2
     go_meet
     case rel=>
      rw [TE.out]
      have FX:=(FrP.refl (fun q=>q=X) y8w).setCell (p:=⟨X,17,none⟩) rfl (.int .i64 (r.hd+1))
      exact S8.out.box FX (S8.out.bX.to (S8.out.bX.cell.set (i:=17) (by simp) _)) (fun h=>⟨⟨h.at_.o0,h.at_.o1,h.at_.o2,h.at_.o3,h.at_.o4,h.at_.o5,h.at_.o6,h.at_.lt,h.at_.ap⟩,⟨h.rm.dl,h.rm.d0,h.rm.dr,h.rm.hl,h.rm.h0,h.rm.hr⟩⟩) (fun q hq=>hq)
    ·have TE:Hid (tk4 r=Uw (tk2 r)):=hid (by
      show ({ Uw (tk2 r) with hd:=if 1000000<r.hd+1 then 1000000 else r.hd+1 } : Rc)=_
      rw [if_pos (by omega),show (1000000:Int)=(Uw (tk2 r)).hd from (show (1000000:Int)=r.hd by omega)])
     go_wp2
     go_meet
     case rel=>
      rw [TE.out]
      exact S8.out
   case rest=>
    have S9:=hid hcut
    clear hcut S8 q17'
    obtain ⟨y9w,hy9w⟩:∃ y9w:World,y9w=wc:=⟨_,rfl⟩
    subst hy9w
    have q12:y9w.cell? ⟨X,12,none⟩=some (.bool (tk4 r).tr):=S9.out.bX.cell 12
    have q3:y9w.cell? ⟨X,3,none⟩=some (.int .i64 (tk4 r).sf.pr):=S9.out.bX.cell 3
    have q13:y9w.cell? ⟨X,13,none⟩=some (.int .i64 (tk4 r).bal):=S9.out.bX.cell 13
    have lX9:=S9.out.bX.lt
    have T4P:Hid (Lim (tk4 r)):=hid HVD.out.vd.lim.tk4
    have T5D:Hid (tk5 r=if (tk4 r).tr=true∧(tk4 r).sf.pr=(tk4 r).bal then Je (tk4 r) (tk4 r).num (tk4 r).dk.n (tk4 r).dk.s else tk4 r):=hid rfl
    have T4F:Hid ((tk4 r).yn≤10∧0≤(tk4 r).dk.kn∧((tk4 r).tr=true→(tk4 r).ld=false)):=hid ⟨HVD.out.vd.yn,HVD.out.vd.ack.k0,HVD.out.tl⟩
    obtain ⟨t4,ht4⟩:∃ t4,tk4 r=t4:=⟨_,rfl⟩
    rw [ht4] at S9 CP8 q12 q3 q13 T4P T5D T4F
    clear ht4
    go_upto_region 19 with fail
    go_cut [82] (fun c wx=>c=.bool (decide (t4.tr=true∧t4.sf.pr=t4.bal))∧wx=y9w)
    case first=>
     cases htr:t4.tr with
     | false=>
      rw [htr] at q12
      go_wp2
      go_meet
      case rel=>exact ⟨by simp [htr],rfl⟩
     | true=>
      rw [htr] at q12
      by_cases hq:t4.sf.pr=t4.bal
      ·have hbq:(t4.sf.pr==t4.bal)=true:=by rw [hq];simp
       have HQ:=hid hq
       clear hq
       go_wp2
       go_meet
       case rel=>exact ⟨by simp [htr,HQ.out],rfl⟩
      ·have hbq:(t4.sf.pr==t4.bal)=false:=by simpa using hq
       have HQ:=hid hq
       clear hq
       go_wp2
       go_meet
       case rel=>exact ⟨by simp [htr,HQ.out],rfl⟩
    case rest=>
    obtain ⟨rfl,hwx⟩:=hcut
    rw [hwx]
    clear hwx q12 q3 q13
    go_upto_if 82 with fail
    go_cut [] (fun wx=>∃ p',StA w X (tk5 r) p' o1 r.hn r.hs p5.HA p5.HC p5.Hb wx∧((tk5 r).ld=true→(tk5 r).an≤p'.A.ac∧∀ i,i<(tk5 r).an→((tk5 r).as_ i).n≤p'.AC i))
    case first=>
     by_cases c:t4.tr=true∧t4.sf.pr=t4.bal
     ·have hdc:decide (t4.tr=true∧t4.sf.pr=t4.bal)=true:=decide_eq_true c
      have TE:Hid (tk5 r=Je t4 t4.num t4.dk.n t4.dk.s):=hid (by rw [T5D.out,if_pos c])
      have HLD:=hid (T4F.out.2.2 c.1)
      clear c
      obtain ⟨g1,hg1⟩:=DA8.out
      have i1:SlsIn y9w 0 y9w.1.size (some ⟨g1,0,none⟩) t4.dk.n t4.dk.s:=by
       have:=S9.out.g.at_.o1.isIn (lo:=0) (hi:=y9w.1.size) (fun h0=>⟨zle _,Zr S9.out.g.at_ (j:=1) (by omega) ⟨h0,rfl⟩⟩)
       rw [hg1] at this
       exact this
      have PR:=hid (Kr t4 p8 t4.num t4.dk.n t4.dk.s g1 0 p8.A.dc y9w S9.out.g CP8.out (by have:=T4F.out.1;omega) T4P.out.bn T4F.out.2.1 T4P.out.dn S9.out.g.rm.dl i1)
      have q0:y9w.cell? ⟨X,0,none⟩=some (.int .i64 t4.num):=S9.out.bX.cell 0
      have q8:y9w.cell? ⟨X,8,none⟩=some (.slice (some ⟨g1,0,none⟩) t4.dk.n p8.A.dc):=by rw [←hg1];exact S9.out.bX.cell 8
      clear i1 hg1
      rw [hdc]
      go_wp2_with (first|((with_reducible show wpList _ _ _ (⟨some 83,Op.load 38 _,_,_,_,_⟩::_) _ _);go_must (refine LD38 (rcC t4 p8.A).toList S9.out.bX.cell ?_))|(go_at_call 34;go_must (refine PR.out.mono ?_;rintro e w9 ⟨p9,rfl,g9,f9,s9⟩;have G9:=hid g9;have F9:=hid f9;have R9:=hid s9;have BX9:=hid (S9.out.keepX f9);clear g9 f9 s9 q0 q8))|((with_reducible show wpList _ _ _ (⟨none,Op.store 38 _ _,_,_,_,_⟩::_) _ _);go_must (refine Zd rfl 38 _ _ rfl X (rcC (Je t4 t4.num t4.dk.n t4.dk.s) p9.A).toList rfl rfl BX9.out rfl Tryz.sz38 (by simp [Value.oneCell']) ?_;intro V1 hr9 hfr9 hsv9;have HBV1:=hid hr9;have HFV1:=hid (FrP.of_fr (P:=fun q=>q=X) hfr9 (fun k h1 h2=>by omega));clear hr9 hfr9 hsv9)))
      have SN:=S9.out.call F9.out G9.out R9.out HFV1.out HBV1.out
      go_meet
      case rel=>
       rw [TE.out]
       refine ⟨p9,SN,fun hl=>?_⟩
       have h1:=(UY HLD.out hl).1
       exact ⟨by rw [h1];exact zle _,fun i hi=>by rw [h1] at hi;exact absurd hi (nlz _)⟩
     ·have hdc:decide (t4.tr=true∧t4.sf.pr=t4.bal)=false:=decide_eq_false c
      have TE:Hid (tk5 r=t4):=hid (by rw [T5D.out,if_neg c])
      clear c
      rw [hdc]
      go_wp2
      go_meet
      case rel=>
       rw [TE.out]
       exact ⟨p8,S9.out,fun _=>⟨CP8.out.al,CP8.out.fl⟩⟩
    case rest=>
    obtain ⟨p9,S10,CL⟩:=hcut
    have S11:=hid S10
    have CL1:=hid CL
    clear S10 CL S9 T4P T5D T4F CP8 DA8
    obtain ⟨yaw,hyaw⟩:∃ yaw:World,yaw=wc:=⟨_,rfl⟩
    subst hyaw
    have q11:yaw.cell? ⟨X,11,none⟩=some (.bool (tk5 r).ld):=S11.out.bX.cell 11
    have lXA:=S11.out.bX.lt
    have L5:=hid (No HVD.out)
    cases hld:(tk5 r).ld with
    | true=>
     rw [hld] at q11
     have LP:=hid (Ii HVD.out hld)
     have SL:=hid (tk5_sl HVD.out HTW.out hld)
     have CA:=hid (CL1.out hld)
     have TL:=hid (EU hld)
     have LG:=hid (NF L5.out LP.out)
     have SLM:=hid (Ob HVD.out)
     have LD:=hid (Im (tk5 r) p9 yaw S11.out.g CA.out.1 CA.out.2 LP.out.aw LP.out.nu LP.out.of L5.out.sn (by have:=L5.out.wn;omega) SL.out.1 SL.out.2 o1 w.1.size r.hn r.hs p5.HA p5.HC p5.Hb S11.out.bd S11.out.bl.size (by have:=HVD.out.vd.lim.hn;omega) (fun q hq e=>(S11.out.nr q e).2.2.1 hq) (fun i hi h0 e=>(S11.out.nh i hi h0).1 e))
     have zA:=S11.out.bl.size
     clear hld CL1
     rw [←TL.out.1,TL.out.2] at LD
     rw [←TL.out.1] at LG
     clear TL
     obtain ⟨TR,hTR⟩:∃ TR,Kt r=TR:=⟨_,rfl⟩
     obtain ⟨TS,hTS⟩:∃ TS,Ke r=TS:=⟨_,rfl⟩
     rw [hTR,hTS] at LD
     rw [hTR] at LG
     rw [hTS] at SLM
     have HTR:=hid hTR
     have HTS:=hid hTS
     clear hTR hTS
     generalize tk5 r=t5 at *
     go_upto_region 23 with (first|((with_reducible show wpList _ _ _ (⟨some 93,Op.load 38 _,_,_,_,_⟩::_) _ _);go_must (refine LD38 (rcC t5 p9.A).toList S11.out.bX.cell ?_))|(go_at_call 35;go_must (refine LD.out.mono ?_;rintro e wB ⟨pB,oB,A',C',hb',rfl,gB,bdB,fB,rB,oB9⟩;have OWB:=hid oB9;obtain ⟨adB,capB,gg,rfl,_,_⟩:=bdB.done;have GB:=hid gB;have BDB:=hid bdB;have FB:=hid fB;have BXB:=hid (S11.out.bX.frP fB (fun e=>by rcases e with e|e;exact (S11.out.nr X e).1 rfl;exact (S11.out.no X e).1 rfl));have BZB:=hid (S11.out.bZ.frP fB (fun e=>by rcases e with e|e;exact (S11.out.nr _ e).2.1 rfl;exact (S11.out.no _ e).2 rfl));have RBB:Hid (∀ q,rbs pB TR q→w.1.size≤q∧q≠X∧q≠w.1.size+1):=hid (fun q hq=>by rcases rB q hq with h|h;exact ⟨(S11.out.nr q h).2.2.2,(S11.out.nr q h).1,(S11.out.nr q h).2.1⟩;exact ⟨by omega,by omega,by have:=S11.out.bZ.lt;omega⟩);have BLB:=hid (S11.out.bl.trans (fB.below (B:=w.1.size) (fun q hq e=>by rcases e with e|e;have:=(S11.out.nr q e).2.2.2;omega;obtain ⟨c9,r9,_⟩:=S11.out.bd.row;have:=(r9.lt q e).1;omega) zA));clear gB bdB fB rB oB9 q11))|((with_reducible show wpList _ _ _ (⟨none,Op.store 38 _ _,_,_,_,_⟩::_) _ _);go_must (refine Zd rfl 38 _ _ rfl X (rcC TR pB.A).toList rfl rfl BXB.out rfl Tryz.sz38 (by simp [Value.oneCell']) ?_;intro V2 hr9 hfr9 hsv9;have HBV2:=hid hr9;have HFV2:=hid (FrP.of_fr (P:=fun q=>q=X) hfr9 (fun k h1 h2=>by omega));clear hr9 hfr9 hsv9)))
     have SFV:=BXB
     have GV:=hid (GB.out.fr HFV2.out (fun q hq e=>(RBB.out q hq).2.1 e))
     have zvh:=hid (BZB.out.frP HFV2.out (fun e=>S11.out.ne e.symm))
     have z2:=FB.out.size
     have nbX:∀ i,i<TS.hn→(TS.hs i).n≠0→¬hb' i=X:=fun i hi h0 e=>by
      obtain ⟨c,rr,hat⟩:=(BDB.out.hold i hi).row (Nat.pos_of_ne_zero h0)
      have h1:=(rr.cell 1 (by omega)).trans (congrArg some (hat 0 (Nat.pos_of_ne_zero h0)).2)
      rw [e] at h1
      have h2:=BXB.out.cell 1
      rw [h1] at h2
      cases h2
     have nbO:∀ q,Value.ownBlock (.slice adB TS.hn capB)=some q→¬q=X:=fun q hq e=>by
      rcases OWB.out q hq with h|h
      ·exact (S11.out.no q h).1 e
      ·omega
     have BDV:=hid (BDB.out.fr2 HFV2.out (fun q hq e=>nbO q hq e) (fun i hi h0 e=>nbX i hi h0 e))
     have BLV:=hid (BLB.out.trans (HFV2.out.below (B:=w.1.size) (fun q hq e=>by have:=S11.out.xs;omega) BLB.out.size))
     have RI:=hid (GV.out.at_.isIn (lo:=w.1.size) (hi:=V2.1.size) (fun k hk=>⟨(fun k hk=>(RBB.out k hk).1) k hk,GV.out.at_.lt k hk⟩))
     have CPY:=hid (Y8 TR pB.A V2 w.1.size V2.1.size (lrf _) LG.out.small RI.out)
     have kl:TS.hn≤1010:=SLM.out.1
     have kl1:(TS.hn:Int)≤1048576:=Ix kl
     have xl1:∀ i,i<TS.hn→((TS.hs i).n:Int)≤1048576:=fun i hi=>Ix (ltr (SLM.out.2 i hi).2.1 (by decide))
     have MI:MssIn V2 w.1.size V2.1.size adB TS.hn TS.hs:=BdMs.isIn BDV.out
     have MIN:=hid (fun (Y:World) (hb:Below V2.1.size V2 Y)=>UK TS.hn TS.hs adB capB Y w.1.size V2.1.size hb.size kl1 xl1 (MI.below hb (lrf _)))
     have lZf:=zvh.out.lt
     have zf:=BLV.out.size
     clear nbX nbO
     go_wp2_with (first|((with_reducible show wpList _ _ _ (⟨some 98,Op.load 38 _,_,_,_,_⟩::_) _ _);go_must (refine LD38 (rcC TR pB.A).toList HBV2.out.cell ?_))|(go_at_call 31;go_must (refine CPY.out.mono ?_;rintro e wC ⟨pC,rfl,hatC,_,_,hgeC,hbC,_⟩;have ATC:=hid hatC;have GEC:=hid hgeC;have HBC:=hid hbC;have BZC:=hid (zvh.out.below hbC zvh.out.lt);have zC:=hbC.size;clear hatC hgeC hbC))|(go_at_call 36;go_must (refine (MIN.out wC HBC.out).mono ?_;rintro e wD ⟨adD,capD,gD,AD,CD,hbD,rfl,msD,geD,hbE,_,_,_⟩;have MSD:=hid msD;have GED:=hid geD;have HBD:=hid hbE;have BZD:=hid (BZC.out.below hbE BZC.out.lt);have zD:=hbE.size;clear msD geD hbE))|((with_reducible show wpList _ _ _ (⟨none,Op.store 38 _ _,_,_,_,_⟩::_) _ _);go_must (refine Zd rfl 38 _ _ rfl (w.1.size+1) (rcC TR pC.A).toList rfl rfl BZD.out rfl Tryz.sz38 (by simp [Value.oneCell']) ?_;intro Vz hr9 hfr9 hsv9;have HBVz:=hid hr9;have HFVz:=hid (FrP.of_fr (P:=fun q=>q=w.1.size+1) hfr9 (fun k h1 h2=>by omega));clear hr9 hfr9 hsv9)))
     refine bodyPost_ret (v:=.tuple #[.agg (rcC TR pC.A),.slice adD TS.hn capD]) (Z8 rfl _ _ (w.1.size+1) (rcC TR pC.A).toList _ _ rfl (Holds.range (cs:=(rcC TR pC.A).toList) HBVz.out.cell) Tryz.underlying38 rfl Tryz.sz38 rfl) rfl ?_
     have ga:=(ATC.out.grow HBD.out).fr HFVz.out (fun k hk e=>by have:=GEC.out k hk;omega)
     have ma:=MSD.out.fr HFVz.out (fun q hq e=>by have:=(GED.out q hq).1;omega)
     have zz:=HFVz.out.size
     have fin:RcIn Vz w.1.size Vz.1.size TR pC.A∧MssIn Vz w.1.size Vz.1.size adD TS.hn TS.hs∧Below w.1.size w Vz:=⟨ga.isIn (fun k hk=>⟨by have:=GEC.out k hk;omega,ga.lt k hk⟩),ma.isIn (fun q hq=>⟨by have:=(GED.out q hq).1;omega,ma.blt hq⟩),(((BLV.out.trans (HBC.out.mono BLV.out.size)).trans (HBD.out.mono (by omega)))).trans (HFVz.out.below (B:=w.1.size) (fun k hk e=>by omega) (by omega))⟩
     have e1:=HTR.out
     have e2:=HTS.out
     subst e1 e2
     exact ⟨pC.A,adD,⟨capD,rfl⟩,fin.1,fin.2.1,fin.2.2⟩
    | false=>
     rw [hld] at q11
     have TQ:=hid (Ej hld)
     have K5:=Ns r
     have NU:1≤(tk5 r).num∧(tk5 r).num≤10:=by rw [K5.1];exact HVD.out.nu
     have OF:0≤(tk5 r).of∧(tk5 r).of≤10:=by rw [K5.2];exact HVD.out.of
     have TD:Hid (∀ R,(tk5 r).hd≤4+3*(tk5 r).num→R=tk5 r→R=Nk (tk5 r)):=hid (fun R h e=>by rw [e];exact (if_pos (Or.inr h)).symm)
     have TN:Hid (¬(tk5 r).hd≤4+3*(tk5 r).num→Nk (tk5 r)=If (tk5 r) (nbR (tk5 r).dk.pr (tk5 r).num (tk5 r).of)):=hid (fun h=>if_neg (fun e=>by rcases e with e|e;rw [hld] at e;cases e;exact h e))
     have LT:Hid (Lim (Nk (tk5 r))):=hid L5.out.ttl
     obtain ⟨TR,hTR⟩:∃ TR,Nk (tk5 r)=TR:=⟨_,rfl⟩
     rw [hTR] at TQ TD TN LT
     clear hTR K5 hld CL1 L5 HTW
     generalize tk5 r=t5 at *
     have q17:yaw.cell? ⟨X,17,none⟩=some (.int .i64 t5.hd):=S11.out.bX.cell 17
     have q0:yaw.cell? ⟨X,0,none⟩=some (.int .i64 t5.num):=S11.out.bX.cell 0
     have hw1:IntKind.i64.wrap (3*t5.num)=3*t5.num:=by rw [IntKind.wrap_i64];omega
     have hw2:IntKind.i64.wrap (4+3*t5.num)=4+3*t5.num:=by rw [IntKind.wrap_i64];omega
     have HNU:=hid NU
     have HOF:=hid OF
     clear NU OF
     go_upto_if 108 with fail
     clear hw1 hw2 q11 q17
     go_cut [] (fun wx=>∃ p',StA w X TR p' o1 r.hn r.hs p5.HA p5.HC p5.Hb wx)
     case first=>
      by_cases hh:t5.hd≤4+3*t5.num
      ·have TE:=hid (TD.out t5 hh rfl)
       go_wp2
       go_meet
       case rel=>
        rw [←TE.out]
        exact ⟨p9,S11.out⟩
      ·have hh2:4+3*t5.num<t5.hd:=by omega
       have TE:=hid (TN.out hh)
       clear hh
       have q6:yaw.cell? ⟨X,6,none⟩=some (.int .i64 t5.dk.pr):=S11.out.bX.cell 6
       have q1:yaw.cell? ⟨X,1,none⟩=some (.int .i64 t5.of):=S11.out.bX.cell 1
       have SN:=hid (Il t5.dk.pr t5.num t5.of yaw)
       have bnn:=nbR_nn t5.dk.pr t5.num t5.of
       obtain ⟨b,hb⟩:∃ b,nbR t5.dk.pr t5.num t5.of=b:=⟨_,rfl⟩
       rw [hb] at SN TE bnn
       clear hb
       have CM:=hid (KX t5 p9 yaw S11.out.g)
       go_upto_region 27 with (first|(go_at_call 37;go_must (refine SN.out.mono ?_;rintro e w9 ⟨rfl,rfl⟩))|((with_reducible show wpList _ _ _ (⟨some 117,Op.load 38 _,_,_,_,_⟩::_) _ _);go_must (refine LD38 (rcC t5 p9.A).toList S11.out.bX.cell ?_))|(go_at_call 38;go_must (refine CM.out.mono ?_;rintro e w9 ⟨pQ,rfl,gQ,fQ,sQ⟩;have GQ:=hid gQ;have FQ:=hid fQ;have RQ:=hid sQ;have BXQ:=hid (S11.out.keepX fQ);clear gQ fQ sQ q6 q1 q0))|((with_reducible show wpList _ _ _ (⟨none,Op.store 38 _ _,_,_,_,_⟩::_) _ _);go_must (refine Zd rfl 38 _ _ rfl X (rcC (ZD t5) pQ.A).toList rfl rfl BXQ.out rfl Tryz.sz38 (by simp [Value.oneCell']) ?_;intro V3 hr9 hfr9 hsv9;have HBV3:=hid hr9;have HFV3:=hid (FrP.of_fr (P:=fun q=>q=X) hfr9 (fun k h1 h2=>by omega));clear hr9 hfr9 hsv9)))
       have S12:=hid (S11.out.call FQ.out GQ.out RQ.out HFV3.out HBV3.out)
       have q17:V3.cell? ⟨X,17,none⟩=some (.int .i64 t5.hd):=HBV3.out.cell 17
       have f17:=HBV3.out.free 17
       have lV3:=HBV3.out.lt
       clear HBV3 HFV3 GQ FQ RQ BXQ S11 CM SN
       go_upto_region 28 with fail
       have S13:Hid (StA w X (XX t5) pQ o1 r.hn r.hs p5.HA p5.HC p5.Hb (V3.setCell ⟨X,17,none⟩ (.int .i64 0))):=by
        have FX:=(FrP.refl (fun q=>q=X) V3).setCell (p:=⟨X,17,none⟩) rfl (.int .i64 0)
        exact hid (S12.out.box FX (S12.out.bX.to (S12.out.bX.cell.set (i:=17) (by simp) _)) (fun h=>⟨⟨h.at_.o0,h.at_.o1,h.at_.o2,h.at_.o3,h.at_.o4,h.at_.o5,h.at_.o6,h.at_.lt,h.at_.ap⟩,⟨h.rm.dl,h.rm.d0,h.rm.dr,h.rm.hl,h.rm.h0,h.rm.hr⟩⟩) (fun q hq=>hq))
       obtain ⟨v4w,hv4w⟩:∃ v4w,V3.setCell ⟨X,17,none⟩ (.int .i64 0)=v4w:=⟨_,rfl⟩
       rw [hv4w] at S13 ⊢
       clear hv4w q17 f17 lV3 S12
       by_cases hb0:b=0
       ·subst hb0
        have TF:=hid (show TR=XX t5 from TE.out.trans (if_pos rfl))
        go_wp2
        go_meet
        case rel=>
         rw [TF.out]
         exact ⟨pQ,S13.out⟩
       ·have TF:=hid (show TR=KI t5.num (Xm b) t5.of.toNat (UR (XX t5) b true true true) from TE.out.trans (if_neg hb0))
        have hbp:0<b:=by omega
        clear hb0
        have q6:v4w.cell? ⟨X,6,none⟩=some (.int .i64 t5.dk.pr):=S13.out.bX.cell 6
        have q13:v4w.cell? ⟨X,13,none⟩=some (.int .i64 0):=S13.out.bX.cell 13
        have q12:v4w.cell? ⟨X,12,none⟩=some (.bool false):=S13.out.bX.cell 12
        have ff:=S13.out.bX.free
        have l4:=S13.out.bX.lt
        go_upto_region 32 with fail
        have S14:Hid (StA w X (UR (XX t5) b true true true) pQ o1 r.hn r.hs p5.HA p5.HC p5.Hb (((v4w.setCell ⟨X,6,none⟩ (.int .i64 b)).setCell ⟨X,13,none⟩ (.int .i64 b)).setCell ⟨X,12,none⟩ (.bool true))):=by
         have FX:=(((FrP.refl (fun q=>q=X) v4w).setCell (p:=⟨X,6,none⟩) rfl (.int .i64 b)).setCell (p:=⟨X,13,none⟩) rfl (.int .i64 b)).setCell (p:=⟨X,12,none⟩) rfl (.bool true)
         have b1:=S13.out.bX.to (S13.out.bX.cell.set (i:=6) (by simp) (.int .i64 b))
         have b2:=b1.to (b1.cell.set (i:=13) (by simp) (.int .i64 b))
         exact hid (S13.out.box FX (b2.to (b2.cell.set (i:=12) (by simp) _)) (fun h=>h.tri b true true true) (fun q hq=>hq))
        obtain ⟨v5w,hv5w⟩:∃ v5w,(((v4w.setCell ⟨X,6,none⟩ (.int .i64 b)).setCell ⟨X,13,none⟩ (.int .i64 b)).setCell ⟨X,12,none⟩ (.bool true))=v5w:=⟨_,rfl⟩
        rw [hv5w] at S14 ⊢
        clear hv5w q6 q13 q12 ff l4 S13
        have NUM:Hid (t5.num=(UR (XX t5) b true true true).num∧t5.of=(UR (XX t5) b true true true).of):=hid ⟨rfl,rfl⟩
        obtain ⟨tq,htq⟩:∃ tq,UR (XX t5) b true true true=tq:=⟨_,rfl⟩
        rw [htq] at S14 TF NUM
        clear htq
        have bd0:BdMs (v5w.alloc (.cells #[] 52)) v5w.1.size (.slice (some ⟨v5w.1.size,0,none⟩) 0 0) 0 (fun _=>Xm b) (fun _=>none) (fun _=>0) (fun _=>0):=
         ⟨⟨fun _=>.int .i64 0,by simpa [Zg] using World.ownsRow_made (base:=v5w.1.size) (e:=52) (size:=8) v5w #[] 0 (lrf _) (zle _) rfl,fun i hi=>absurd hi (nlz _)⟩,fun i hi=>absurd hi (nlz _),fun i hi=>absurd hi (nlz _),fun i hi=>absurd hi (nlz _),fun i j hi=>absurd hi (nlz _)⟩
        have OT:=hid (Un tq pQ.A (Xm b) rfl 0 (fun _=>Xm b) _ v5w.1.size _ _ _ _ (by rw [←NUM.out.2];exact HOF.out.1) (by rw [←NUM.out.2];have:=HOF.out.2;omega) (by omega) (by simp) bd0)
        clear bd0
        have HFO:=OM tq.num (Xm b) (fun _=>Xm b) tq tq.of.toNat
        have LLE:=U6 tq.num (Xm b) (0,fun _=>Xm b) tq.of.toNat
        have LN0:=PG tq.num (Xm b) (fun _=>Xm b) rfl tq.of.toNat
        obtain ⟨LS,hLS⟩:∃ LS,YE tq.num (Xm b) tq.of.toNat (0,fun _=>Xm b)=LS:=⟨_,rfl⟩
        rw [hLS] at OT HFO LLE LN0
        clear hLS
        have nL:LS.1≤10:=by
         have h1:=HOF.out
         have h2:(0,fun _:Nat=>Xm b).1=0:=rfl
         rw [←NUM.out.2] at LLE
         omega
        have TG:=hid (show TR=Nj LS.2 LS.1 tq by rw [HFO,←NUM.out.1,←NUM.out.2];exact TF.out)
        have N0:=hid LN0
        clear HFO LLE LN0 TF NUM
        go_wp2_with (first|((with_reducible show wpList _ _ _ (⟨some 128,Op.load 38 _,_,_,_,_⟩::_) _ _);go_must (refine LD38 (rcC tq pQ.A).toList S14.out.bX.cell ?_))|(go_at_call 39;go_must (refine OT.out.mono ?_;rintro e v6w ⟨oL,AL,CL9,hbL,rfl,bdL,frL,owL⟩;obtain ⟨adL,capL,gL,rfl,msL,geL⟩:=bdL.done;have MSL:=hid msL;have GEL:=hid geL;have BLW:Hid (Below v5w.1.size v5w v6w):=hid ((Zb _ _).trans (frL.below (B:=v5w.1.size) (fun q hq e=>by have e2:some v5w.1.size=some q:=e;cases e2;omega) (by simp)));have S15:=hid (S14.out.grow BLW.out);clear bdL frL owL msL geL)))
        have G15:Hid (LS.1≠0→gL≠X∧¬rbs pQ tq gL):=hid (fun h0=>by
         have h1:=GEL.out gL (Or.inl ⟨Nat.pos_of_ne_zero h0,rfl⟩)
         exact ⟨by have:=S14.out.bX.lt;omega,fun e=>by have:=S14.out.g.at_.lt gL e;omega⟩)
        clear OT S14 GEL BLW
        go_loopw [10] (fun i wr=>∃ (j:Nat) (pj:RcP),i=.int .i64 (j:Int)∧j≤LS.1∧Hid (StA w X (Nj LS.2 j tq) pj o1 r.hn r.hs p5.HA p5.HC p5.Hb wr)∧Hid (MssAt wr adL gL LS.1 LS.2 AL CL9 hbL)∧Hid (LS.1≠0→gL≠X∧¬rbs pj (Nj LS.2 j tq) gL)) (fun i _=>LS.1-(intOf i).toNat)
        case atStart=>exact ⟨0,pQ,rfl,zle _,S15,MSL,G15⟩
        case round=>
         obtain ⟨j,pj,rfl,hj,SJ,MJ,GJ⟩:=hrel
         clear S15 MSL G15
         by_cases hjn:j<LS.1
         ·have had:=MJ.out.addr (by omega)
          obtain ⟨c,rr,hat⟩:=MJ.out.row (by omega)
          obtain ⟨a0',a1',a2',a3',a4',a5',a6',a7'⟩:=hat j hjn
          have hgl:=rr.lt
          have HJN:=hid hjn
          have n0:=N0.out j hjn
          have c0':=(rr.cell (j*8) (by omega)).trans (congrArg some a0')
          have c1':=(rr.cell (j*8+1) (by omega)).trans (congrArg some a1')
          have c2':=(rr.cell (j*8+2) (by omega)).trans (congrArg some a2')
          have c3':=(rr.cell (j*8+3) (by omega)).trans (congrArg some a3')
          have c4':=(rr.cell (j*8+4) (by omega)).trans (congrArg some a4')
          have c5':=(rr.cell (j*8+5) (by omega)).trans (congrArg some a5')
          have c6':=(rr.cell (j*8+6) (by omega)).trans (congrArg some a6')
          have c7':=(rr.cell (j*8+7) (by omega)).trans (congrArg some a7')
          have EJ:Hid (Nj LS.2 (j+1) tq=Zo (Nj LS.2 j tq) (LS.2 j)):=hid rfl
          obtain ⟨rj,hrj⟩:∃ rj,Nj LS.2 j tq=rj:=⟨_,rfl⟩
          rw [hrj] at SJ GJ EJ
          clear hrj rr hat a0' a1' a2' a3' a4' a5' a6' a7'
          have H0:=hid c0'
          have H1:=hid c1'
          have H2:=hid c2'
          have H3:=hid c3'
          have H4:=hid c4'
          have H5:=hid c5'
          have H6:=hid c6'
          have H7:=hid c7'
          have HN0:=hid n0
          clear c0' c1' c2' c3' c4' c5' c6' c7' n0
          rw [had]
          go_wp2
          refine E8 _ _ _ _ _ _ _ _ _ _ _ _ _ _ _ _ _ _ _ _ _ _ _ _ _ _ _ _ _ _ _ _ _ _ _ _ _ _ _ _ _ _ _ _ _ _ _ _ _ _ _ _ _ _ _ _ _ _ _ _ _ _ _ _ _ _ _ _ _ _ _ _ _ _ _ _ _ _ _ _ _ _ _ _ _ _ _ _ _ _ _ _ _ _ _ _ _ _ _ _ _ _ _ _ _ _ _ _ _ _ _ _ _ _ _ _ _ _ _ _ _ _ _ _ _ _ _ _ _ _ _ _ _ _ _ _ _ _ _ _ _ _ _ _ _ _ X gL j LS.1 capL (LS.2 j) (AL j) (CL9 j) rj pj (Zo rj (LS.2 j)) wr (fun q Y=>RcG Y (Zo rj (LS.2 j)) q∧FrP (rbs pj rj) wr Y∧(∀ k,rbs q (Zo rj (LS.2 j)) k→rbs pj rj k∨wr.1.size≤k)) SJ.out.bX hgl HJN.out (by omega) H0.out H1.out H2.out H3.out H4.out H5.out H6.out H7.out (fun Y hb=>?_) (fun q Y hr=>⟨_,SJ.out.keepX hr.2.1,rfl⟩) _ ?_
          ·have hz0:(LS.2 j).n=0:=HN0.out
           refine (JR rj pj (LS.2 j) (AL j) (CL9 j) 0 Y (SJ.out.g.grow hb) (by rw [hz0];exact Na _ _ _ _) (fun h=>absurd hz0 h)).mono ?_
           rintro e w' ⟨q,he,h1,h2,h3⟩
           refine ⟨q,he,h1,(FrP.of_below (P:=rbs pj rj) hb).trans (h2.mono (fun k hk=>⟨2,by omega,Or.inl ⟨Nat.pos_of_ne_zero hk.1,hk.2⟩⟩)),fun k hk=>?_⟩
           rcases h3 k hk with h|h|h
           ·exact Or.inl h
           ·exact absurd hz0 h.1
           ·exact Or.inr (ltr hb.size h)
          ·rintro t9 v9 X9 ⟨q,Y,⟨g9,f9,s9⟩,b9,fr9,_⟩
           have FS:=FrP.of_fr (P:=fun q=>q=X) fr9 (fun k h1 h2=>by omega)
           have SJ2:=hid (SJ.out.call f9 g9 s9 FS b9)
           have ngl:=GJ.out (by have:=HJN.out;omega)
           have MJ2:=hid (MJ.out.fr ((f9.mono (fun k hk=>(Or.inl hk:rbs pj rj k∨k=X))).trans (FS.mono (fun k hk=>Or.inr hk))) (fun k hk e=>by
            have hk1:k=gL:=by
             rcases hk with hk|⟨i,hi,hn,_⟩
             ·exact hk.2
             ·exact absurd (N0.out i hi) hn
            subst hk1
            rcases e with e|e
            ·exact ngl.2 e
            ·exact ngl.1 e))
           have GJ2:Hid (LS.1≠0→gL≠X∧¬rbs q (Zo rj (LS.2 j)) gL):=hid (fun _=>⟨ngl.1,fun e=>by
            rcases s9 gL e with h|h
            ·exact ngl.2 h
            ·omega⟩)
           clear g9 f9 s9 b9 fr9 FS
           go_wp2
           go_roundw
           case rel=>exact ⟨j+1,q,by go_num,HJN.out,by rw [EJ.out];exact SJ2,by rw [←had];exact MJ2,by rw [EJ.out];exact GJ2⟩
           case measure=>have:=HJN.out;simp [intOf];omega
         ·have hje:j=LS.1:=by omega
          subst hje
          go_wp2
          go_meet
          case rel=>
           rw [TG.out]
           exact ⟨pj,SJ.out⟩
     case rest=>
     obtain ⟨pZ,SZ0⟩:=hcut
     have SZ:=hid SZ0
     clear SZ0
     obtain ⟨ybw,hybw⟩:∃ ybw:World,ybw=wc:=⟨_,rfl⟩
     subst hybw
     obtain ⟨adO,capO,gO,hoe,_,_⟩:=SZ.out.bd.done
     rw [hoe] at SZ ⊢
     clear hoe
     have KLh:r.hn≤1010:=by have:=HVD.out.vd.lim.hn;omega
     have XLh:∀ i,i<r.hn→LimM (r.hs i):=HVD.out.vd.lim.hm
     have RI:=hid (SZ.out.g.at_.isIn (lo:=w.1.size) (hi:=ybw.1.size) (fun k hk=>⟨(fun k hk=>(SZ.out.nr k hk).2.2.2) k hk,SZ.out.g.at_.lt k hk⟩))
     have CPY:=hid (Y8 TR pZ.A ybw w.1.size ybw.1.size (lrf _) LT.out.small RI.out)
     have kl:r.hn≤1010:=KLh
     have kl1:(r.hn:Int)≤1048576:=Ix kl
     have xl1:∀ i,i<r.hn→((r.hs i).n:Int)≤1048576:=fun i hi=>Ix (ltr (XLh i hi).2.1 (by decide))
     have MI:MssIn ybw w.1.size ybw.1.size adO r.hn r.hs:=BdMs.isIn SZ.out.bd
     have MIN:=hid (fun (Y:World) (hb:Below ybw.1.size ybw Y)=>UK r.hn r.hs adO capO Y w.1.size ybw.1.size hb.size kl1 xl1 (MI.below hb (lrf _)))
     have lZf:=SZ.out.bZ.lt
     have zf:=SZ.out.bl.size
     skip
     go_wp2_with (first|((with_reducible show wpList _ _ _ (⟨some 145,Op.load 38 _,_,_,_,_⟩::_) _ _);go_must (refine LD38 (rcC TR pZ.A).toList SZ.out.bX.cell ?_))|(go_at_call 31;go_must (refine CPY.out.mono ?_;rintro e wC ⟨pC,rfl,hatC,_,_,hgeC,hbC,_⟩;have ATC:=hid hatC;have GEC:=hid hgeC;have HBC:=hid hbC;have BZC:=hid (SZ.out.bZ.below hbC SZ.out.bZ.lt);have zC:=hbC.size;clear hatC hgeC hbC))|(go_at_call 36;go_must (refine (MIN.out wC HBC.out).mono ?_;rintro e wD ⟨adD,capD,gD,AD,CD,hbD,rfl,msD,geD,hbE,_,_,_⟩;have MSD:=hid msD;have GED:=hid geD;have HBD:=hid hbE;have BZD:=hid (BZC.out.below hbE BZC.out.lt);have zD:=hbE.size;clear msD geD hbE))|((with_reducible show wpList _ _ _ (⟨none,Op.store 38 _ _,_,_,_,_⟩::_) _ _);go_must (refine Zd rfl 38 _ _ rfl (w.1.size+1) (rcC TR pC.A).toList rfl rfl BZD.out rfl Tryz.sz38 (by simp [Value.oneCell']) ?_;intro Vz hr9 hfr9 hsv9;have HBVz:=hid hr9;have HFVz:=hid (FrP.of_fr (P:=fun q=>q=w.1.size+1) hfr9 (fun k h1 h2=>by omega));clear hr9 hfr9 hsv9)))
     refine bodyPost_ret (v:=.tuple #[.agg (rcC TR pC.A),.slice adD r.hn capD]) (Z8 rfl _ _ (w.1.size+1) (rcC TR pC.A).toList _ _ rfl (Holds.range (cs:=(rcC TR pC.A).toList) HBVz.out.cell) Tryz.underlying38 rfl Tryz.sz38 rfl) rfl ?_
     have ga:=(ATC.out.grow HBD.out).fr HFVz.out (fun k hk e=>by have:=GEC.out k hk;omega)
     have ma:=MSD.out.fr HFVz.out (fun q hq e=>by have:=(GED.out q hq).1;omega)
     have zz:=HFVz.out.size
     have fin:RcIn Vz w.1.size Vz.1.size TR pC.A∧MssIn Vz w.1.size Vz.1.size adD r.hn r.hs∧Below w.1.size w Vz:=⟨ga.isIn (fun k hk=>⟨by have:=GEC.out k hk;omega,ga.lt k hk⟩),ma.isIn (fun q hq=>⟨by have:=(GED.out q hq).1;omega,ma.blt hq⟩),(((SZ.out.bl.trans (HBC.out.mono SZ.out.bl.size)).trans (HBD.out.mono (by omega)))).trans (HFVz.out.below (B:=w.1.size) (fun k hk e=>by omega) (by omega))⟩
     rw [TQ.out.1,TQ.out.2]
     exact ⟨pC.A,adD,⟨capD,rfl⟩,fin.1,fin.2.1,fin.2.2⟩
end Go.Proofs.YtokkbdlofbdljaaGreat
