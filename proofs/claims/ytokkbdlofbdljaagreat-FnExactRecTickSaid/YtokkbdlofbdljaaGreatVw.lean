import Derived.Test.YtokkbdlofbdljaaGreatVs
import Derived.Test.YtokkbdlofbdljaaGreatHh
import Derived.Deep.DeepCutAuto
namespace Go.Proofs.YtokkbdlofbdljaaGreat
open Go.RowKit
set_option maxHeartbeats 16000000
theorem LD30 {ops:Array Oper} {rest:List Oper} {op:Oper} {a:Act} {w:World} {Q:Exit→Act→World→Prop} {x:Operand} {b:Nat} (cs:List Value) (hc:Holds w b cs.toArray) (h:wpList Tryz.prog ops Q rest (a.put op.dst (.agg cs.toArray)) w) (hgd:op.guard=none:=by rfl) (ho:op.op=.load 30 x:=by rfl) (hx:a.eval x=.pointer (some ⟨b,0,none⟩):=by rfl) (hl:some 18=some cs.length:=by rfl):wpList Tryz.prog ops Q (op::rest) a w:=wpList_load_mid hgd 30 x ho b 0 hx cs _ (Holds.range (cs:=cs) hc) Tryz.underlying30 rfl (Tryz.sz30.trans hl) h
theorem MssIn.nil (w:World) (lo hi:Nat) (ad:Option Addr) (x:Nat→Ms):MssIn w lo hi ad 0 x:=fun _i hi=>absurd hi (nlz _)
set_option maxRecDepth 100000 in
theorem Of (r:Rc) (A:RcA) (w:World) (lo hi:Nat) (hhi:hi≤w.1.size) (hm:ZW r) (hf:ZR r) (hc:RcIn w lo hi r A) (hv:rcB r=false) :
  Calls Tryz.prog 7 #[rcV r A] w fun e w'=>∃ A' ad cap,e=.returned (.tuple #[rcV (rc0 0 0 false) A',.slice ad (rc0 0 0 false).hn cap])∧RcIn w' w.1.size w'.1.size (rc0 0 0 false) A'∧MssIn w' w.1.size w'.1.size ad (rc0 0 0 false).hn (rc0 0 0 false).hs∧Below w.1.size w w':=by
 have HM:=hid hm
 have HF:=hid hf
 have HC:=hid hc
 have hV:=hid (Uv r A)
 rw [hv] at hV
 have hB0:Below w.1.size w (((w.alloc (.cells (rcC r A) 38)).alloc (.cells (rcL 0 0 false).toArray 38)).alloc (.cells #[] 52)):=((Zb _ _).alloc (by simp) _).alloc (by simp;omega) _
 have hN2:=Bx.new3 w (rcC r A) (rcL 0 0 false).toArray #[] 38 38 52
 have Q0:=hid hN2.1
 have Z0:=hid hN2.2.1
 have OW0:Hid (Ow0 (w.1.size+1+1) w.1.size (((w.alloc (.cells (rcC r A) 38)).alloc (.cells (rcL 0 0 false).toArray 38)).alloc (.cells #[] 52))):=hid (by
  have:=World.ownsRow_made (base:=w.1.size) (e:=52) (size:=8) ((w.alloc (.cells (rcC r A) 38)).alloc (.cells (rcL 0 0 false).toArray 38)) #[] 0 (by simp;omega) (zle _) rfl
  simpa [Ow0] using this)
 have z2lt:w.1.size+1+1<(((w.alloc (.cells (rcC r A) 38)).alloc (.cells (rcL 0 0 false).toArray 38)).alloc (.cells #[] 52)).1.size:=by simp
 have HB0:=hid hB0
 clear hm hf hc hN2 hB0 hv
 have mark:Nat:=0
 go_enter Tryz.func7,Tryz.ntmps7
 go_wp2_with (first|((with_reducible show wpList _ _ _ (⟨some 12,_,_,_,_,_⟩::_) _ _);clear mark;go_must ((generalize (((w.alloc (.cells (rcC r A) 38)).alloc (.cells (rcL 0 0 false).toArray 38)).alloc (.cells #[] 52))=W at *);have z0lt:=Z0.out.lt))|((with_reducible show wpList _ _ _ (⟨some 12,Op.load 38 _,_,_,_,_⟩::_) _ _);go_must (refine LD38 (rcC r A).toList Q0.out.cell ?_))|(go_at_call 30;go_must (refine (hV.out W lo hi (ltr hhi HB0.out.size) HF.out (HC.out.below HB0.out hhi)).mono ?_;rintro e w1 ⟨rfl,hb1⟩;have B1:=hid (HB0.out.trans (hb1.mono HB0.out.size));have Q1:=hid (Q0.out.below hb1 Q0.out.lt);have Z1:=hid (Z0.out.below hb1 Z0.out.lt);have OW1:=hid (OW0.out.grown9 hb1);have z1lt:w.1.size+1+1<w1.1.size:=ltl z2lt hb1.size;clear hb1 Q0 Z0 HB0 OW0))|((with_reducible show wpList _ _ _ (⟨none,Op.store 38 (Operand.tmp 2) _,_,_,_,_⟩::_) _ _);go_must (refine Zd rfl 38 _ _ rfl (w.1.size+1) (rcL 0 0 false) rfl rfl Z1.out rfl Tryz.sz38 (by simp [Value.oneCell']) ?_;intro Vz hr9 hfr9 hsv9;have HBVz:=hid hr9;have HFVz:=hid (FrP.of_fr (P:=fun q=>q=w.1.size+1) hfr9 (fun k h1 h2=>by omega));clear hr9 hfr9 hsv9)))
 refine bodyPost_ret (v:=.tuple #[rcZ 0 0 false,.slice (some ⟨w.1.size+1+1,0,none⟩) 0 0]) (Z8 rfl _ _ (w.1.size+1) (rcL 0 0 false) _ _ rfl (Holds.range (cs:=(rcL 0 0 false)) HBVz.out.cell) Tryz.underlying38 rfl Tryz.sz38 rfl) rfl ?_
 exact ⟨pN.A,_,_,rfl,(RcAt.none Vz 0 0 false).isIn (fun k ⟨j,_,hk⟩=>absurd hk (KT 0 0 false j k)),MssIn.nil _ _ _ _ _,B1.out.trans (HFVz.out.below (B:=w.1.size) (fun k hk e=>by omega) (by omega))⟩
set_option maxRecDepth 100000 in
theorem NM (r:Rc) (A:RcA) (w:World) (lo hi:Nat) (hhi:hi≤w.1.size) (hm:ZW r) (hf:ZR r) (hc:RcIn w lo hi r A) (hv:rcB r=true) (hup:r.up=false) :
  Calls Tryz.prog 7 #[rcV r A] w fun e w'=>∃ A' ad cap,e=.returned (.tuple #[rcV r A',.slice ad (rc0 0 0 false).hn cap])∧RcIn w' w.1.size w'.1.size r A'∧MssIn w' w.1.size w'.1.size ad (rc0 0 0 false).hn (rc0 0 0 false).hs∧Below w.1.size w w':=by
 have HM:=hid hm
 have HF:=hid hf
 have HC:=hid hc
 have hV:=hid (Uv r A)
 rw [hv] at hV
 have hB0:Below w.1.size w (((w.alloc (.cells (rcC r A) 38)).alloc (.cells (rcL 0 0 false).toArray 38)).alloc (.cells #[] 52)):=((Zb _ _).alloc (by simp) _).alloc (by simp;omega) _
 have hN2:=Bx.new3 w (rcC r A) (rcL 0 0 false).toArray #[] 38 38 52
 have Q0:=hid hN2.1
 have Z0:=hid hN2.2.1
 have OW0:Hid (Ow0 (w.1.size+1+1) w.1.size (((w.alloc (.cells (rcC r A) 38)).alloc (.cells (rcL 0 0 false).toArray 38)).alloc (.cells #[] 52))):=hid (by
  have:=World.ownsRow_made (base:=w.1.size) (e:=52) (size:=8) ((w.alloc (.cells (rcC r A) 38)).alloc (.cells (rcL 0 0 false).toArray 38)) #[] 0 (by simp;omega) (zle _) rfl
  simpa [Ow0] using this)
 have z2lt:w.1.size+1+1<(((w.alloc (.cells (rcC r A) 38)).alloc (.cells (rcL 0 0 false).toArray 38)).alloc (.cells #[] 52)).1.size:=by simp
 have HB0:=hid hB0
 have HUP:=hid hup
 clear hm hf hc hN2 hB0 hv hup
 have mark:Nat:=0
 go_enter Tryz.func7,Tryz.ntmps7
 go_wp2_with (first|((with_reducible show wpList _ _ _ (⟨some 12,_,_,_,_,_⟩::_) _ _);clear mark;go_must ((generalize (((w.alloc (.cells (rcC r A) 38)).alloc (.cells (rcL 0 0 false).toArray 38)).alloc (.cells #[] 52))=W at *);have z0lt:=Z0.out.lt))|((with_reducible show wpList _ _ _ (⟨some 12,Op.load 38 _,_,_,_,_⟩::_) _ _);go_must (refine LD38 (rcC r A).toList Q0.out.cell ?_))|(go_at_call 30;go_must (refine (hV.out W lo hi (ltr hhi HB0.out.size) HF.out (HC.out.below HB0.out hhi)).mono ?_;rintro e w1 ⟨rfl,hb1⟩;have B1:=hid (HB0.out.trans (hb1.mono HB0.out.size));have Q1:=hid (Q0.out.below hb1 Q0.out.lt);have Z1:=hid (Z0.out.below hb1 Z0.out.lt);have OW1:=hid (OW0.out.grown9 hb1);have z1lt:w.1.size+1+1<w1.1.size:=ltl z2lt hb1.size;clear hb1 Q0 Z0 HB0 OW0))|((with_reducible show wpList _ _ _ (⟨some 17,Op.load 38 _,_,_,_,_⟩::_) _ _);go_must (refine LD38 (rcC r A).toList Q1.out.cell ?_))|(go_at_call 31;go_must (refine (Y8 r A w1 lo hi (ltr hhi B1.out.size) HM.out (HC.out.below B1.out hhi)).mono ?_;rintro e w2 ⟨p,rfl,hat,hws,hrm,hge,hb2,hcp⟩;have B2:=hid (B1.out.trans (hb2.mono B1.out.size));have Q2:=hid (Q1.out.below hb2 Q1.out.lt);have Z2:=hid (Z1.out.below hb2 Z1.out.lt);have OW2:=hid (OW1.out.grown9 hb2);have HG2:=hid (RcG.mk hat hrm);have HDA:=hid hws.da;have HCP:=hid hcp;have HGE:=hid (fun k hk=>ltl z1lt (hge k hk));have z2l:=Z2.out.lt;have z12:=hb2.size;clear hat hws hrm hge hb2 hcp Q1 Z1 B1 OW1))|((with_reducible show wpList _ _ _ (⟨none,Op.store 38 (Operand.tmp 5) _,_,_,_,_⟩::_) _ _);go_must (refine Zd rfl 38 _ _ rfl w2.1.size (rcC r p.A).toList rfl rfl (Bx.new w2 (rcL 0 0 false).toArray 38) rfl Tryz.sz38 (by simp [Value.oneCell']) ?_;intro V hr hfr hsv;have HBV:=hid hr;have HFV:=hid (FrP.of_fr (P:=fun q=>q=w2.1.size) hfr (fun k h1 h2=>by omega));clear hr hfr hsv;have hb3:Below w2.1.size w2 V:=(Zb w2 _).trans (HFV.out.below (B:=w2.1.size) (fun q hq e=>by omega) (by simp));have B3:=hid (B2.out.trans (hb3.mono B2.out.size));have Q3:=hid (Q2.out.below hb3 Q2.out.lt);have Z3:=hid (Z2.out.below hb3 Z2.out.lt);have OW3:=hid (OW2.out.grown9 hb3);have HG3:=hid (HG2.out.grow hb3);have z3lt:=Z3.out.lt;have q3lt:=Q3.out.lt;have HLT:=hid HG2.out.at_.lt;have u2:V.cell? ⟨w.1.size,2,none⟩=some (.bool false):=(Q3.out.cell 2).trans (congrArg (fun b=>some (Value.bool b)) HUP.out);obtain ⟨q0,q1,q2,q3,q4,q5,q6,q7,q8,q9,q10,q11,q12,q13,q14,q15,q16,q17⟩:=Ze HBV.out.cell;have qf:=HBV.out.free;have qlt:=HBV.out.lt;clear q0 q1 q2 q9 q10 q11 q12 q13 q14 q15 q16 q17;clear hb3 Q2 Z2 B2 HFV OW2))|((with_reducible show wpList _ _ _ (⟨some 22,Op.load 38 _,_,_,_,_⟩::_) _ _);go_must (refine LD38 (rcC r p.A).toList HBV.out.cell ?_))|((with_reducible show wpList _ _ _ (⟨none,Op.store 38 (Operand.tmp 2) _,_,_,_,_⟩::_) _ _);go_must (refine Zd rfl 38 _ _ rfl (w.1.size+1) (rcC r p.A).toList rfl rfl Z3.out rfl Tryz.sz38 (by simp [Value.oneCell']) ?_;intro Vz hr9 hfr9 hsv9;have HBVz:=hid hr9;have HFVz:=hid (FrP.of_fr (P:=fun q=>q=w.1.size+1) hfr9 (fun k h1 h2=>by omega));clear hr9 hfr9 hsv9)))
 refine bodyPost_ret (v:=.tuple #[.agg (rcC r p.A),.slice (some ⟨w.1.size+1+1,0,none⟩) 0 0]) (Z8 rfl _ _ (w.1.size+1) (rcC r p.A).toList _ _ rfl (Holds.range (cs:=(rcC r p.A).toList) HBVz.out.cell) Tryz.underlying38 rfl Tryz.sz38 rfl) rfl ?_
 have hzz:=HFVz.out.size
 have ga:=(HG3.out.fr HFVz.out (fun k hk e=>by have:=HGE.out k hk;omega)).at_
 exact ⟨p.A,_,⟨_,rfl⟩,ga.isIn (fun k hk=>⟨by have:=HGE.out k hk;omega,ga.lt k hk⟩),MssIn.nil _ _ _ _ _,B3.out.trans (HFVz.out.below (B:=w.1.size) (fun k hk e=>by omega) (by omega))⟩
theorem Ik (r:Rc) (A:RcA) (w:World) (lo hi:Nat) (hhi:hi≤w.1.size) (hm:ZW r) (hf:ZR r) (hc:RcIn w lo hi r A) :
  Calls Tryz.prog 7 #[rcV r A] w fun e w'=>∃ A' ad cap,e=.returned (.tuple #[rcV (UE r) A',.slice ad (UF r).hn cap])∧RcIn w' w.1.size w'.1.size (UE r) A'∧MssIn w' w.1.size w'.1.size ad (UF r).hn (UF r).hs∧Below w.1.size w w':=by
 cases hv:rcB r with
 | false=>
  have e1:UE r=rc0 0 0 false:=if_neg (by rw [hv];simp)
  have e2:UF r=rc0 0 0 false:=if_neg (by rw [hv];simp)
  rw [e1,e2]
  exact Of r A w lo hi hhi hm hf hc hv
 | true=>
  cases hup:r.up with
  | false=>
   have e1:UE r=r:=(if_pos hv).trans (if_neg (by rw [hup];simp))
   have e2:UF r=rc0 0 0 false:=if_neg (by rw [hup];simp)
   rw [e1,e2]
   exact NM r A w lo hi hhi hm hf hc hv hup
  | true=>
   have e1:UE r=Kt r:=(if_pos hv).trans (if_pos hup)
   have e2:UF r=Ke r:=if_pos ⟨hv,hup⟩
   rw [e1,e2]
   exact Oe r A w lo hi hhi hm hf hc hv hup
theorem Fl (r:Rc):Lim (UE r):=by
 cases hv:rcB r with
 | false=>
  have e1:UE r=rc0 0 0 false:=if_neg (by rw [hv];simp)
  rw [e1];exact rc0_lim
 | true=>
  cases hup:r.up with
  | false=>
   have e1:UE r=r:=(if_pos hv).trans (if_neg (by rw [hup];simp))
   rw [e1];exact (VdR.of hv).lim
  | true=>
   have e1:UE r=Kt r:=(if_pos hv).trans (if_pos hup)
   rw [e1];exact tik_lim (Ih hv)
theorem Fk (r:Rc):LimS 1010 (UF r):=by
 by_cases h:rcB r=true∧r.up=true
 ·have e2:UF r=Ke r:=if_pos h
  rw [e2];exact Ob (Ih h.1)
 ·have e2:UF r=rc0 0 0 false:=if_neg h
  rw [e2];exact ⟨zle _,fun i hi=>absurd hi (nlz _)⟩
structure TT (W:World) (S b4 b6 b7:Nat) (r:Rc) (A:RcA) (O:Rc) (A2:RcA) (Kn:Nat) (Kx:Nat→Ms) (ad2:Option Addr) (rx:Rc) (p3:RcP) (Ox:Rc) (p5:RcP) (mx:Nat→Ms) (ps:RcP):Prop where
 bx:Bx W S (rcC r A)
 arg:RcIn W 0 S r A
 v4:Bx W b4 (rcC O A2)
 i4:RcIn W (S+1) b4 O A2
 j4:MssIn W (S+1) b4 ad2 Kn Kx
 v6:Bx W b6 (rcC r p3.A)
 a6:RcAt W rx p3
 k6:∀ k,rbs p3 rx k→b4<k∧k<b6
 v7:Bx W b7 (rcC O p5.A)
 a7:RcAt W Ox p5
 k7:∀ k,rbs p5 Ox k→b6<k∧k<b7
 m7:MssAt W ps.A.ha ps.g2 Kn mx ps.HA ps.HC ps.Hb
 l7:∀ k,blkH ps.g2 Kn (fun i=>(mx i).n) ps.Hb k→b6<k∧k<b7
 dj:∀ k,rbs p5 Ox k→¬blkH ps.g2 Kn (fun i=>(mx i).n) ps.Hb k
 o:S<b4∧b4<b6∧b6<b7∧b7<W.1.size
section
variable {W W':World} {S b4 b6 b7:Nat} {r:Rc} {A:RcA} {O:Rc} {A2:RcA} {Kn:Nat} {Kx:Nat→Ms} {ad2:Option Addr} {rx:Rc} {p3:RcP} {Ox:Rc} {p5:RcP} {mx:Nat→Ms} {ps:RcP}
theorem TT.below (h:TT W S b4 b6 b7 r A O A2 Kn Kx ad2 rx p3 Ox p5 mx ps) (hb:Below W.1.size W W'):TT W' S b4 b6 b7 r A O A2 Kn Kx ad2 rx p3 Ox p5 mx ps:=by
 obtain ⟨o1,o2,o3,o4⟩:=h.o
 exact ⟨h.bx.below hb (by omega),h.arg.below hb (by omega),h.v4.below hb (by omega),h.i4.below hb (by omega),h.j4.below hb (by omega),h.v6.below hb (by omega),h.a6.grow hb,h.k6,h.v7.below hb (by omega),h.a7.grow hb,h.k7,h.m7.fr (FrP.of_below (P:=fun _=>False) hb) (fun _ _ h=>h),h.l7,h.dj,o1,o2,o3,ltl o4 hb.size⟩
theorem TT.markX (h:TT W S b4 b6 b7 r A O A2 Kn Kx ad2 rx p3 Ox p5 mx ps) (k0:Nat) (hx:RcAt W' (ykRc k0 rx) p3) (hf:FrP (rbs p3 rx) W W'):TT W' S b4 b6 b7 r A O A2 Kn Kx ad2 (ykRc k0 rx) p3 Ox p5 mx ps:=by
 obtain ⟨o1,o2,o3,o4⟩:=h.o
 have hn:∀ q,q≤b4∨b6≤q→¬rbs p3 rx q:=fun q hq e=>by have:=h.k6 q e;omega
 have hz:Below b4 W W':=hf.below (B:=b4) (fun k hk=>hn k (by omega)) (by omega)
 exact ⟨h.bx.frP hf (hn _ (by omega)),h.arg.below hz (by omega),h.v4.frP hf (hn _ (by omega)),h.i4.below hz (lrf _),h.j4.below hz (lrf _),h.v6.frP hf (hn _ (by omega)),hx,fun k hk=>h.k6 k ((rbs_yk p3 k0 rx k).1 hk),h.v7.frP hf (hn _ (by omega)),h.a7.fr hf (fun k hk=>hn k (by have:=h.k7 k hk;omega)),h.k7,h.m7.fr hf (fun k hk=>hn k (by have:=h.l7 k hk;omega)),h.l7,h.dj,o1,o2,o3,ltl o4 hf.size⟩
theorem TT.markG (h:TT W S b4 b6 b7 r A O A2 Kn Kx ad2 rx p3 Ox p5 mx ps) (k0:Nat) (hx:RcAt W' (ykRc k0 Ox) p5) (hf:FrP (rbs p5 Ox) W W'):TT W' S b4 b6 b7 r A O A2 Kn Kx ad2 rx p3 (ykRc k0 Ox) p5 mx ps:=by
 obtain ⟨o1,o2,o3,o4⟩:=h.o
 have hn:∀ q,q≤b6∨b7≤q→¬rbs p5 Ox q:=fun q hq e=>by have:=h.k7 q e;omega
 have hz:Below b4 W W':=hf.below (B:=b4) (fun k hk=>hn k (by omega)) (by omega)
 exact ⟨h.bx.frP hf (hn _ (by omega)),h.arg.below hz (by omega),h.v4.frP hf (hn _ (by omega)),h.i4.below hz (lrf _),h.j4.below hz (lrf _),h.v6.frP hf (hn _ (by omega)),h.a6.fr hf (fun k hk=>hn k (by have:=h.k6 k hk;omega)),h.k6,h.v7.frP hf (hn _ (by omega)),hx,fun k hk=>h.k7 k ((rbs_yk p5 k0 Ox k).1 hk),h.m7.fr hf (fun k hk e=>h.dj k e hk),h.l7,fun k hk=>h.dj k ((rbs_yk p5 k0 Ox k).1 hk),o1,o2,o3,ltl o4 hf.size⟩
theorem TT.markL (h:TT W S b4 b6 b7 r A O A2 Kn Kx ad2 rx p3 Ox p5 mx ps) (k0:Nat) (hx:MssAt W' ps.A.ha ps.g2 Kn (ykMs k0 mx Kn) ps.HA ps.HC ps.Hb) (hf:FrP (blkH ps.g2 Kn (fun i=>(mx i).n) ps.Hb) W W'):TT W' S b4 b6 b7 r A O A2 Kn Kx ad2 rx p3 Ox p5 (ykMs k0 mx Kn) ps:=by
 obtain ⟨o1,o2,o3,o4⟩:=h.o
 have hn:∀ q,q≤b6∨b7≤q→¬blkH ps.g2 Kn (fun i=>(mx i).n) ps.Hb q:=fun q hq e=>by have:=h.l7 q e;omega
 have hz:Below b4 W W':=hf.below (B:=b4) (fun k hk=>hn k (by omega)) (by omega)
 have en:=ykMs_n k0 mx Kn
 exact ⟨h.bx.frP hf (hn _ (by omega)),h.arg.below hz (by omega),h.v4.frP hf (hn _ (by omega)),h.i4.below hz (lrf _),h.j4.below hz (lrf _),h.v6.frP hf (hn _ (by omega)),h.a6.fr hf (fun k hk=>hn k (by have:=h.k6 k hk;omega)),h.k6,h.v7.frP hf (hn _ (by omega)),h.a7.fr hf (fun k hk=>h.dj k hk),h.k7,hx,fun k hk=>h.l7 k (by rw [en] at hk;exact hk),fun k hk e=>h.dj k hk (by rw [en] at e;exact e),o1,o2,o3,ltl o4 hf.size⟩
theorem TT.lowX (h:TT W S b4 b6 b7 r A O A2 Kn Kx ad2 rx p3 Ox p5 mx ps) (hf:FrP (rbs p3 rx) W W'):Below S W W':=by
 obtain ⟨o1,o2,o3,o4⟩:=h.o
 exact hf.below (B:=S) (fun k hk e=>by have:=h.k6 k e;omega) (by omega)
theorem TT.lowG (h:TT W S b4 b6 b7 r A O A2 Kn Kx ad2 rx p3 Ox p5 mx ps) (hf:FrP (rbs p5 Ox) W W'):Below S W W':=by
 obtain ⟨o1,o2,o3,o4⟩:=h.o
 exact hf.below (B:=S) (fun k hk e=>by have:=h.k7 k e;omega) (by omega)
theorem TT.lowL (h:TT W S b4 b6 b7 r A O A2 Kn Kx ad2 rx p3 Ox p5 mx ps) (hf:FrP (blkH ps.g2 Kn (fun i=>(mx i).n) ps.Hb) W W'):Below S W W':=by
 obtain ⟨o1,o2,o3,o4⟩:=h.o
 exact hf.below (B:=S) (fun k hk e=>by have:=h.l7 k e;omega) (by omega)
theorem TT.g7 (h:TT W S b4 b6 b7 r A O A2 Kn Kx ad2 rx p3 O p5 mx ps):RcIn W (b6+1) b7 O p5.A:=h.a7.isIn (fun k hk=>by have:=h.k7 k hk;omega)
theorem TT.x6 (h:TT W S b4 b6 b7 r A O A2 Kn Kx ad2 r p3 Ox p5 mx ps):RcIn W (b4+1) b6 r p3.A:=h.a6.isIn (fun k hk=>by have:=h.k6 k hk;omega)
theorem TT.n7 (h:TT W S b4 b6 b7 r A O A2 Kn Kx ad2 rx p3 Ox p5 Kx ps):MssIn W (b6+1) b7 ps.A.ha Kn Kx:=h.m7.isIn (fun k hk=>by have:=h.l7 k hk;omega)
end
set_option maxRecDepth 100000 in
theorem ES (p0 p2 p3 p4 p5 p7 p8 p9 ze zc za zd zi zj zg zh zn zm zo zp zq yb yf ye z9 yd z8 z0 zu zy zt yg yi yj yh yk ym yo yr yt kj ko j8 j5 j9 kg kd jw ju yp yq yv yw xx xy xc yu yx xb xd xg xk xe xh js x9 jk jj ji jl xw yz xi xm xa xf xj xl yy xn xp xq xr xu xt jt jr jq kf ke kk kq kh j0 j2 j6 jz jx jy jv x8 xz kt kr kv:Value) (s0 b5:Nat) (r:Rc) (A A5:RcA) (hf:ZR r) (hm:ZW r) (W:World) (hv:W.rangeAt b5 0 (rcC r A5).toList) (hbx:W.rangeAt s0 0 (rcC r A).toList) (hat:RcIn W 0 W.1.size r A5) (hin:RcIn W 0 s0 r A) (hs:s0<W.1.size) (zb:b5<W.1.size) (Q:Exit→Act→World→Prop)
  (hQ:∀ u0 u1 u2 u3 X,Below W.1.size W X→Q .normal ⟨#[p0,.pointer (some ⟨s0,0,none⟩),p2,p3,p4,p5,.pointer (some ⟨b5,0,none⟩),p7,p8,p9,ze,zc,za,zd,zi,zj,zg,zh,zn,zm,zo,zp,zq,yb,yf,ye,z9,yd,z8,z0,zu,zy,zt,yg,yi,yj,yh,yk,ym,yo,yr,yt,u0,u1,u2,u3,.bool false,kj,ko,j8,j5,j9,kg,kd,jw,ju,yp,yq,yv,yw,xx,xy,xc,yu,yx,xb,xd,xg,xk,xe,xh,js,x9,jk,jj,ji,jl,xw,yz,xi,xm,xa,xf,xj,xl,yy,xn,xp,xq,xr,xu,xt,jt,jr,jq,kf,ke,kk,kq,kh,j0,j2,j6,jz,jx,jy,jv,x8,xz,kt,kr,kv],[]⟩ X) :
  Code.wp Tryz.prog (Code.region 10 #[⟨some 42,.load 38 (.tmp 6),38,Qg,#[],none⟩,⟨some 43,.load 30 (.tmp 1),30,Qg,#[],none⟩,⟨some 44,.call ⟨.value (.func 8),#[.tmp 43],#[30]⟩,38,Qg,#[⟨1,.data⟩],none⟩,⟨some 45,.call ⟨.value (.func 10),#[.tmp 42,.tmp 44],#[38,38]⟩,4,Qg,#[⟨0,.data⟩,⟨2,.data⟩,⟨2,.chain⟩],none⟩,⟨some 46,.unOp .not 4 (.tmp 45),4,Qg,#[⟨3,.data⟩],none⟩] true) Q ⟨#[p0,.pointer (some ⟨s0,0,none⟩),p2,p3,p4,p5,.pointer (some ⟨b5,0,none⟩),p7,p8,p9,ze,zc,za,zd,zi,zj,zg,zh,zn,zm,zo,zp,zq,yb,yf,ye,z9,yd,z8,z0,zu,zy,zt,yg,yi,yj,yh,yk,ym,yo,yr,yt,undef,undef,undef,undef,undef,kj,ko,j8,j5,j9,kg,kd,jw,ju,yp,yq,yv,yw,xx,xy,xc,yu,yx,xb,xd,xg,xk,xe,xh,js,x9,jk,jj,ji,jl,xw,yz,xi,xm,xa,xf,xj,xl,yy,xn,xp,xq,xr,xu,xt,jt,jr,jq,kf,ke,kk,kq,kh,j0,j2,j6,jz,jx,jy,jv,x8,xz,kt,kr,kv],[]⟩ W:=by
 refine region5 (by kernel_rfl) (fun t:Nat→Value=>#[p0,.pointer (some ⟨s0,0,none⟩),p2,p3,p4,p5,.pointer (some ⟨b5,0,none⟩),p7,p8,p9,ze,zc,za,zd,zi,zj,zg,zh,zn,zm,zo,zp,zq,yb,yf,ye,z9,yd,z8,z0,zu,zy,zt,yg,yi,yj,yh,yk,ym,yo,yr,yt,t 0,t 1,t 2,t 3,t 4,kj,ko,j8,j5,j9,kg,kd,jw,ju,yp,yq,yv,yw,xx,xy,xc,yu,yx,xb,xd,xg,xk,xe,xh,js,x9,jk,jj,ji,jl,xw,yz,xi,xm,xa,xf,xj,xl,yy,xn,xp,xq,xr,xu,xt,jt,jr,jq,kf,ke,kk,kq,kh,j0,j2,j6,jz,jx,jy,jv,x8,xz,kt,kr,kv]) (rcV r A5) (rcV r A) (fun v X=>∃ A',v=rcV r A'∧RcIn X 0 X.1.size r A') rfl (by kernel_rfl) ?hd ?st2 rfl ?s0 ?s1 ?s2 ?s3 ?s4 ?hfin
 case hd=>
  intro l i hr
  obtain ⟨_,o,ho,hdep⟩:=mem_ready.1 hr
  refine ⟨fun e=>?_,fun e=>?_,fun e=>?_⟩<;>subst e<;>simp only [List.getElem?_toArray,List.getElem?_cons_succ,List.getElem?_cons_zero,Option.some.injEq] at ho<;>subst ho
  ·exact hdep ⟨1,.data⟩ (by simp) rfl
  ·exact ⟨hdep ⟨0,.data⟩ (by simp) rfl,hdep ⟨2,.data⟩ (by simp) rfl⟩
  ·exact hdep ⟨3,.data⟩ (by simp) rfl
 case st2=>
  rintro v X Y ⟨A',rfl,h⟩ hb
  exact ⟨A',rfl,(h.below hb (lrf _)).mono (lrf _) hb.size⟩
 case s0=>
  intro t X K hb hK
  exact YX rfl rfl 38 _ rfl b5 rfl (rcC r A5).toList _ (World.rangeAt_below hv hb zb) Tryz.underlying38 rfl Tryz.sz38 hK
 case s1=>
  intro t X K hb hK
  exact YX rfl rfl 30 _ rfl s0 rfl (rcC r A).toList _ (World.rangeAt_below hbx hb hs) Tryz.underlying30 rfl Tryz.sz30 hK
 case s2=>
  intro t X K hb e1 hK
  refine Zi rfl rfl ?_
  have HK:=hid hK
  clear hK
  go_simp
  go_at_call 8
  refine (K8 r A X 0 s0 (by have:=hb.size;omega) hm (hin.below hb (by omega))).mono ?_
  rintro e Y ⟨A',m1,m2,m3,m4,m5,m6,rfl,hn',ho',hbY⟩
  have h:=HK.out _ Y ⟨A',rfl,ho'.isIn.mono (zle _) (lrf _)⟩ hbY
  simpa [updT,e1] using h
 case s3=>
  intro t X K hb e0 h2 hK
  obtain ⟨A',e2,i2⟩:=h2
  refine Zi rfl rfl ?_
  have HK:=hid hK
  have HI2:=hid i2
  clear hK i2
  go_simp
  go_at_call 10
  refine (Kg r A5 A' X 0 X.1.size 0 X.1.size (lrf _) (lrf _) hf ((hat.below hb (lrf _)).mono (lrf _) hb.size) HI2.out).mono ?_
  rintro e Y ⟨rfl,hbY⟩
  have h:=HK.out Y hbY
  simpa [updT,e0,e2] using h
 case s4=>
  intro t X K e3 hK
  refine Zi rfl rfl ?_
  go_simp
  simpa [updT,e3] using hK
 case hfin=>
  intro t X e4 hb
  have h:=hQ (t 0) (t 1) (t 2) (t 3) X hb
  rw [←e4] at h
  exact h
set_option maxRecDepth 100000 in
theorem EV (r:Rc) (A:RcA) (w:World) (hf:ZR r) (hc:RcIn w 0 w.1.size r A) :
  Calls Tryz.prog 3 #[rcV r A] w fun e w'=>e=.returned (.bool true)∧Below w.1.size w w':=by
 have HF:=hid hf
 have HC:=hid hc
 have Q0:=hid (Bx.new w (rcC r A) 30)
 have hB0:Below w.1.size w (w.alloc (.cells (rcC r A) 30)):=Zb _ _
 have HB0:=hid hB0
 clear hf hc hB0
 have mark:Nat:=0
 go_enter Tryz.func3,Tryz.ntmps3
 go_upto_region 3 with (first|((with_reducible show wpList _ _ _ (⟨some 14,_,_,_,_,_⟩::_) _ _);clear mark;go_must (generalize (w.alloc (.cells (rcC r A) 30))=W at *))|((with_reducible show wpList _ _ _ (⟨some 14,Op.load 30 _,_,_,_,_⟩::_) _ _);go_must (refine LD30 (rcC r A).toList Q0.out.cell ?_))|(go_at_call 6;go_must (refine (szRc_any r A 1048576 W (by omega) (by omega) 0 w.1.size HB0.out.size HF.out (HC.out.below HB0.out (lrf _))).mono ?_;rintro e w1 ⟨rfl,hb1⟩;have HB1:=hid (HB0.out.trans (hb1.mono HB0.out.size));have Q1:=hid (Q0.out.below hb1 Q0.out.lt);clear hb1 Q0 HB0)))
 by_cases hsz:Yb 1048576 (szRc r)<0
 ·clear Q1
  go_wp2
  go_ret
  exact ⟨rfl,HB1.out⟩
 have HSZ:=hid (Yu (l:=1048576) (s:=szRc r) (by omega)).1
 have HM:=hid (Ph HSZ.out)
 have HOL:=hid (Fl r)
 have HKL:=hid (Fk r)
 have HRM:=hid (mkRc_le 1 r)
 have cS:=hid (fun (X:World) (A1:RcA) (h2:RcIn X 0 X.1.size r A1)=>Ik r A1 X 0 X.1.size (lrf _) HM.out HF.out h2)
 have cI:=hid (fun (X:World) (A1:RcA) (lo hi:Nat) (h1:hi≤X.1.size) (h2:ZX r A1) (h3:RcIn X lo hi r A1)=>IC r A1 X lo hi h1 HM.out HF.out h2 h3)
 obtain ⟨O,hO⟩:∃ O,UE r=O:=⟨_,rfl⟩
 obtain ⟨K,hK⟩:∃ K,UF r=K:=⟨_,rfl⟩
 rw [hO] at cS cI HOL
 rw [hK] at cS cI HKL
 clear hO hK
 have HOF:=hid HOL.out.fit
 have HOS:=hid HOL.out.small
 have HOM:=hid (HOL.out.mark 1)
 have KX1:Hid (∀ i,i<K.hn→(K.hs i).n≤60):=hid (fun i hi=>(HKL.out.2 i hi).2.1)
 have KX:Hid (∀ i,i<K.hn→((K.hs i).n:Int)≤140737488355328):=hid (fun i hi=>by have:=KX1.out i hi;omega)
 have kn:K.hn≤1010:=HKL.out.1
 have z1:w.1.size<w1.1.size:=Q1.out.lt
 go_upto_region 6 with (first|((with_reducible show wpList _ _ _ (⟨some 20,Op.load 30 _,_,_,_,_⟩::_) _ _);go_must (refine LD30 (rcC r A).toList Q1.out.cell ?_))|(go_at_call 8;go_must (refine (K8 r A w1 0 w.1.size HB1.out.size HM.out (HC.out.below HB1.out (lrf _))).mono ?_;rintro e w2 ⟨A1,n1,n2,n3,n4,n5,n6,rfl,_,ho1,hb2⟩;have HB2:=hid (HB1.out.trans (hb2.mono HB1.out.size));have Q2:=hid (Q1.out.below hb2 Q1.out.lt);have I2:=hid (ho1.isIn.mono (zle _) (lrf _));have z2:=hb2.size;clear ho1 hb2 Q1 HB1))|(go_at_call 7;go_must (refine (cS.out w2 A1 I2.out).mono ?_;rintro e w3 ⟨A2,ad2,cap2,rfl,i3,j3,hb3⟩;have HB3:=hid (HB2.out.trans (hb3.mono HB2.out.size));have Q3:=hid (Q2.out.below hb3 Q2.out.lt);have I3:=hid (i3.mono (lo2:=w.1.size+1) (hi2:=w3.1.size) (by omega) (lrf _));have J3:=hid (j3.mono (lo2:=w.1.size+1) (hi2:=w3.1.size) (by omega) (lrf _));have z3:=hb3.size;clear i3 j3 hb3 Q2 HB2 I2 cS))|((with_reducible show wpList _ _ _ (⟨none,Op.store 38 _ _,_,_,_,_⟩::_) _ _);go_must (refine Zd (c:=((rcL 0 0 false):List Value).toArray) rfl 38 _ _ rfl w3.1.size (rcC O A2).toList rfl rfl (Bx.new w3 ((rcL 0 0 false):List Value).toArray 38) rfl Tryz.sz38 (by simp [Value.oneCell']) ?_;intro V4 hr hfr hsv;have BV4:=hid hr;have DV4:Below w3.1.size w3 V4:=(Zb w3 _).trans (hfr.below (B:=w3.1.size) (lrf _) (by simp));have LV4:w3.1.size<V4.1.size:=hr.lt;clear hr hfr hsv;have Q4:=hid (Q3.out.below DV4 Q3.out.lt);have HB4:=hid (HB3.out.trans (DV4.mono HB3.out.size));have I4:=hid (I3.out.below DV4 (lrf _));have J4:=hid (J3.out.below DV4 (lrf _));clear Q3 HB3 I3 J3 DV4)))
 obtain ⟨b4,hb4⟩:∃ b4,w3.1.size=b4:=⟨_,rfl⟩
 rw [hb4] at I4 J4 BV4 LV4 z3 ⊢
 clear hb4
 go_upto_region 7 with (first|((with_reducible show wpList _ _ _ (⟨some 25,Op.load 30 _,_,_,_,_⟩::_) _ _);go_must (refine LD30 (rcC r A).toList Q4.out.cell ?_))|(go_at_call 8;go_must (refine (K8 r A V4 0 w.1.size HB4.out.size HM.out (HC.out.below HB4.out (lrf _))).mono ?_;rintro e w5 ⟨A3,n1,n2,n3,n4,n5,n6,rfl,hn3,ho3,hb5⟩;have HB5:=hid (HB4.out.trans (hb5.mono HB4.out.size));have Q5:=hid (Q4.out.below hb5 Q4.out.lt);have I5:=hid (I4.out.below hb5 (by omega));have J5:=hid (J4.out.below hb5 (by omega));have B5:=hid (BV4.out.below hb5 LV4);have z5:=hb5.size;have HN3:=hid hn3;obtain ⟨p3,hp3,hat3,hge3⟩:=ho3.at;subst hp3;have X5:=hid hat3;have G5:=hid hge3;clear hn3 ho3 hat3 hge3 hb5 Q4 HB4 I4 J4 BV4))|((with_reducible show wpList _ _ _ (⟨none,Op.store 38 _ _,_,_,_,_⟩::_) _ _);go_must (refine Zd (c:=((rcL 0 0 false):List Value).toArray) rfl 38 _ _ rfl w5.1.size (rcC r p3.A).toList rfl rfl (Bx.new w5 ((rcL 0 0 false):List Value).toArray 38) rfl Tryz.sz38 (by simp [Value.oneCell']) ?_;intro V6 hr hfr hsv;have BV6:=hid hr;have DV6:Below w5.1.size w5 V6:=(Zb w5 _).trans (hfr.below (B:=w5.1.size) (lrf _) (by simp));have LV6:w5.1.size<V6.1.size:=hr.lt;clear hr hfr hsv;have Q6:=hid (Q5.out.below DV6 Q5.out.lt);have HB6:=hid (HB5.out.trans (DV6.mono HB5.out.size));have I6:=hid (I5.out.below DV6 (by omega));have J6:=hid (J5.out.below DV6 (by omega));have B6:=hid (B5.out.below DV6 B5.out.lt);have X6:=hid (X5.out.grow DV6);have LT6:=hid X5.out.lt;clear Q5 HB5 I5 J5 B5 X5 DV6)))
 have K6:Hid (∀ k,rbs p3 r k→b4<k∧k<w5.1.size):=hid (fun k hk=>⟨by have:=G5.out k hk;omega,LT6.out k hk⟩)
 have o56:b4<w5.1.size:=by omega
 obtain ⟨b6,hb6⟩:∃ b6,w5.1.size=b6:=⟨_,rfl⟩
 rw [hb6] at K6 BV6 LV6 o56 ⊢
 clear hb6 G5 LT6
 go_upto_region 8 with (first|((with_reducible show wpList _ _ _ (⟨some 28,Op.load 38 _,_,_,_,_⟩::_) _ _);go_must (refine LD38 (rcC r p3.A).toList BV6.out.cell ?_))|(go_at_call 9;go_must (refine (cI.out V6 p3.A b4 b6 (Nat.le_of_lt LV6) HN3.out (X6.out.isIn (fun k hk=>by have:=K6.out k hk;omega))).mono ?_;rintro e w7 ⟨p5,ps,rfl,hat5,hats,hge5,hges,hb7⟩;have HB7:=hid (HB6.out.trans (hb7.mono HB6.out.size));have Q7:=hid (Q6.out.below hb7 Q6.out.lt);have I7:=hid (I6.out.below hb7 (by omega));have J7:=hid (J6.out.below hb7 (by omega));have B7:=hid (B6.out.below hb7 B6.out.lt);have X7:=hid (X6.out.grow hb7);have V7:=hid (BV6.out.below hb7 LV6);have G7:=hid hat5;have S7:=hid hats;have GE7:=hid hge5;have GS7:=hid hges;have z7:=hb7.size;clear hat5 hats hge5 hges hb7 Q6 HB6 I6 J6 B6 X6 BV6))|((with_reducible show wpList _ _ _ (⟨none,Op.store 38 _ _,_,_,_,_⟩::_) _ _);go_must (refine Zd (c:=((rcL 0 0 false):List Value).toArray) rfl 38 _ _ rfl w7.1.size (rcC O p5.A).toList rfl rfl (Bx.new w7 ((rcL 0 0 false):List Value).toArray 38) rfl Tryz.sz38 (by simp [Value.oneCell']) ?_;intro V8 hr hfr hsv;have BV8:=hid hr;have DV8:Below w7.1.size w7 V8:=(Zb w7 _).trans (hfr.below (B:=w7.1.size) (lrf _) (by simp));have LV8:w7.1.size<V8.1.size:=hr.lt;clear hr hfr hsv;have Q8:=hid (Q7.out.below DV8 Q7.out.lt);have HB8:=hid (HB7.out.trans (DV8.mono HB7.out.size)))))
 have WS0:Hid (TT V8 w.1.size b4 b6 w7.1.size r A O A2 K.hn K.hs ad2 r p3 O p5 K.hs ps):=hid (by
  exact ⟨Q8.out,HC.out.below HB8.out (lrf _),B7.out.below DV8 B7.out.lt,I7.out.below DV8 (by omega),J7.out.below DV8 (by omega),V7.out.below DV8 V7.out.lt,X7.out.grow DV8,K6.out,BV8.out,G7.out.grow DV8,fun k hk=>⟨by have:=(GE7.out k hk).1;omega,G7.out.lt k hk⟩,(S7.out.grow DV8).o2,fun k hk=>⟨by have:=GS7.out k ⟨2,by omega,hk⟩;omega,S7.out.lt k ⟨2,by omega,hk⟩⟩,fun k hk e=>(GE7.out k hk).2 ⟨2,by omega,e⟩,by omega,o56,by omega,LV8⟩)
 clear HKL Q7 I7 J7 B7 X7 V7 G7 S7 GE7 GS7 Q8 K6 BV8 HB7 DV8 HN3
 obtain ⟨b7,hb7⟩:∃ b7,w7.1.size=b7:=⟨_,rfl⟩
 rw [hb7] at WS0 LV8 z7 ⊢
 clear hb7
 go_upto_region 10 with (first|((with_reducible show wpList _ _ _ (⟨some 32,Op.load 38 _,_,_,_,_⟩::_) _ _);go_must (refine LD38 (rcC O p5.A).toList WS0.out.v7.cell ?_))|((with_reducible show wpList _ _ _ (⟨some 33,Op.load 38 _,_,_,_,_⟩::_) _ _);go_must (refine LD38 (rcC O A2).toList WS0.out.v4.cell ?_))|(go_at_call 10;go_must (refine (Kg O p5.A A2 V8 (b6+1) b7 (w.1.size+1) b4 (by have:=WS0.out.o;omega) (by have:=WS0.out.o;omega) HOF.out WS0.out.g7 WS0.out.i4).mono ?_;rintro e w9 ⟨rfl,hbq⟩;have WS1a:=hid (WS0.out.below hbq);have WS1ab:=hid hbq;clear hbq))|(go_at_call 11;go_must (refine (eqMss_any K.hn K.hs ps.A.ha ad2 ps.A.hc cap2 w9 (b6+1) b7 (w.1.size+1) b4 (by have:=WS1a.out.o;omega) (by have:=WS1a.out.o;omega) (by omega) KX.out WS1a.out.n7 WS1a.out.j4).mono ?_;rintro e w10 ⟨rfl,hbq⟩;have WS1:=hid (WS1a.out.below hbq);have WS1b:=hid (WS1ab.out.trans (hbq.mono WS1ab.out.size));clear hbq WS1a WS1ab)))
 have HB10:=hid (HB8.out.trans (WS1b.out.mono HB8.out.size))
 clear WS0 WS1b HB8
 go_wp2
 refine ES _ _ _ _ _ _ _ _ _ _ _ _ _ _ _ _ _ _ _ _ _ _ _ _ _ _ _ _ _ _ _ _ _ _ _ _ _ _ _ _ _ _ _ _ _ _ _ _ _ _ _ _ _ _ _ _ _ _ _ _ _ _ _ _ _ _ _ _ _ _ _ _ _ _ _ _ _ _ _ _ _ _ _ _ _ _ _ _ _ _ _ _ _ _ _ _ _ _ _ _ _ _ _ _ _ w.1.size b6 r A p3.A HF.out HM.out w10 (Holds.range (cs:=(rcC r p3.A).toList) WS1.out.v6.cell) (Holds.range (cs:=(rcC r A).toList) WS1.out.bx.cell) (WS1.out.x6.mono (zle _) (Nat.le_of_lt WS1.out.v6.lt)) WS1.out.arg WS1.out.bx.lt WS1.out.v6.lt _ ?_
 intro u0 u1 u2 u3 w11 hb11
 have WS2:=hid (WS1.out.below hb11)
 have HB11:=hid (HB10.out.trans (hb11.mono HB10.out.size))
 clear hb11 WS1 HB10
 go_upto_region 14 with (first|((with_reducible show wpList _ _ _ (⟨some 47,Op.load 38 _,_,_,_,_⟩::_) _ _);go_must (refine LD38 (rcC r p3.A).toList WS2.out.v6.cell ?_))|(go_at_call 12;go_must (refine (Uj r p3 1 w11 HM.out (lrf _) (by have:=HRM.out;have:=HSZ.out;omega) WS2.out.a6).mono ?_;rintro e w12 ⟨rfl,hx12,hf12⟩;have WS3:=hid (WS2.out.markX 1 hx12 hf12);have HB12:=hid (HB11.out.trans (WS2.out.lowX hf12));clear hx12 hf12 WS2 HB11)))
 have hkm:¬((mkRc 1 r:Nat):Int)<0:=by omega
 generalize mkRc 1 r=km at *
 go_upto_region 17 with (first|((with_reducible show wpList _ _ _ (⟨some 53,Op.load 38 _,_,_,_,_⟩::_) _ _);go_must (refine ZF ?hw 38 _ rfl b7 0 rfl (rcC O p5.A).toList _ (Holds.range (cs:=(rcC O p5.A).toList) WS3.out.v7.cell) Tryz.underlying38 rfl Tryz.sz38 ?_;(case hw=>(go_simp;done))))|((with_reducible show wpList _ _ _ (⟨some 54,Op.load 38 _,_,_,_,_⟩::_) _ _);go_must (refine ZF ?hw 38 _ rfl b4 0 rfl (rcC O A2).toList _ (Holds.range (cs:=(rcC O A2).toList) WS3.out.v4.cell) Tryz.underlying38 rfl Tryz.sz38 ?_;(case hw=>(go_simp;done))))|(go_at_call 10;go_must (refine (Kg O p5.A A2 w12 (b6+1) b7 (w.1.size+1) b4 (by have:=WS3.out.o;omega) (by have:=WS3.out.o;omega) HOF.out WS3.out.g7 WS3.out.i4).mono ?_;rintro e w13 ⟨rfl,hbq⟩;have WS4a:=hid (WS3.out.below hbq);have WS4ab:=hid hbq;clear hbq))|(go_at_call 11;go_must (refine (eqMss_any K.hn K.hs ps.A.ha ad2 ps.A.hc cap2 w13 (b6+1) b7 (w.1.size+1) b4 (by have:=WS4a.out.o;omega) (by have:=WS4a.out.o;omega) (by omega) KX.out WS4a.out.n7 WS4a.out.j4).mono ?_;rintro e w14 ⟨rfl,hbq⟩;have WS4:=hid (WS4a.out.below hbq);have WS4b:=hid (WS4ab.out.trans (hbq.mono WS4ab.out.size));clear hbq WS4a WS4ab)))
 have HB14:=hid (HB12.out.trans (WS4b.out.mono HB12.out.size))
 clear WS3 WS4b HB12
 have MB:Hid (mkRc 1 O≤1073741824):=hid (by have:=HOM.out;omega)
 have MB2:Hid (ZS (mkRc 1 O) K.hs K.hn≤100000000):=hid (by have h1:=HOM.out;have h2:=Nh (mkRc 1 O) K.hs K.hn KX1.out;omega)
 have MG:Hid (1≤mkRc 1 O):=hid (mkRc_ge 1 O)
 go_upto_region 18 with (first|((with_reducible show wpList _ _ _ (⟨some 64,Op.load 38 _,_,_,_,_⟩::_) _ _);go_must (refine LD38 (rcC O p5.A).toList WS4.out.v7.cell ?_))|(go_at_call 12;go_must (refine (Uj O p5 1 w14 HOS.out (lrf _) MB.out WS4.out.a7).mono ?_;rintro e w15 ⟨rfl,hx15,hf15⟩;have WS5:=hid (WS4.out.markG 1 hx15 hf15);have HB15:=hid (HB14.out.trans (WS4.out.lowG hf15));clear hx15 hf15 WS4 HB14)))
 have CH:=hid (fun (X:World) (h:RcAt X (ykRc 1 O) p5)=>Up O p5 1 X HOS.out (lrf _) MB.out h)
 generalize mkRc 1 O=kO at *
 have kO1:1≤(kO:Int):=by have:=MG.out;omega
 have hkO:¬((kO:Nat):Int)<0:=by omega
 have CL:=hid (fun (X:World) (h:MssAt X ps.A.ha ps.g2 K.hn (ykMs kO K.hs K.hn) ps.HA ps.HC ps.Hb)=>heldMss_own ps.A.ha ps.g2 K.hn K.hs ps.HA ps.HC ps.Hb ps.A.hc kO X (by omega) kO1 (by have:=MB2.out;omega) h)
 go_upto_region 20 with (go_at_call 13;go_must (refine (markMss_own ps.A.ha ps.g2 K.hn K.hs ps.HA ps.HC ps.Hb ps.A.hc kO w15 (by omega) kO1 (by have:=MB2.out;omega) WS5.out.m7).mono ?_;rintro e w16 ⟨rfl,hx16,hf16⟩;have WS6:=hid (WS5.out.markL kO hx16 hf16);have HB16:=hid (HB15.out.trans (WS5.out.lowL hf16));clear hx16 hf16 WS5 HB15))
 generalize ZS kO K.hs K.hn=kL at *
 have hkL:¬((kL:Nat):Int)<0:=by omega
 go_upto_region 23 with (first|((with_reducible show wpList _ _ _ (⟨some 70,Op.load 38 _,_,_,_,_⟩::_) _ _);go_must (refine LD38 (rcC O p5.A).toList WS6.out.v7.cell ?_))|(go_at_call 14;go_must (refine (CH.out w16 WS6.out.a7).mono ?_;rintro e w17 ⟨rfl,hb17⟩;have WS7:=hid (WS6.out.below hb17);have HB17:=hid (HB16.out.trans (hb17.mono HB16.out.size));clear hb17 WS6 HB16)))
 go_upto_region 28 with (go_at_call 15;go_must (refine (CL.out w17 WS7.out.m7).mono ?_;rintro e w18 ⟨rfl,hb18⟩;have WS8:=hid (WS7.out.below hb18);have HB18:=hid (HB17.out.trans (hb18.mono HB17.out.size));clear hb18 WS7 HB17))
 go_upto_region 29 with (first|((with_reducible show wpList _ _ _ (⟨some 84,Op.load 30 _,_,_,_,_⟩::_) _ _);go_must (refine LD30 (rcC r A).toList WS8.out.bx.cell ?_))|(go_at_call 8;go_must (refine (K8 r A w18 0 w.1.size HB18.out.size HM.out WS8.out.arg).mono ?_;rintro e w19 ⟨A3,n1,n2,n3,n4,n5,n6,rfl,hn9,ho9,hb19⟩;have HB19:=hid (HB18.out.trans (hb19.mono HB18.out.size));have WS9:=hid (WS8.out.below hb19);have HN9:=hid hn9;have I9:=hid (ho9.isIn.mono (zle _) (lrf _));clear hn9 ho9 hb19 HB18 WS8))|(go_at_call 9;go_must (refine (cI.out w19 A3 0 w19.1.size (lrf _) HN9.out I9.out).mono ?_;rintro e w20 ⟨p9,ps9,rfl,hat9,hats9,hge9,hges9,hb20⟩;have HB20:=hid (HB19.out.trans (hb20.mono HB19.out.size));have WS10:=hid (WS9.out.below hb20);have IO:=hid (hat9.isIn (lo:=w19.1.size) (hi:=w20.1.size) (fun k hk=>⟨(hge9 k hk).1,hat9.lt k hk⟩));have IS:=hid (hats9.o2.isIn (lo:=w19.1.size) (hi:=w20.1.size) (fun k hk=>⟨hges9 k ⟨2,by omega,hk⟩,hats9.lt k ⟨2,by omega,hk⟩⟩));clear hat9 hats9 hge9 hges9 hb20 HB19 WS9 HN9 I9))|((with_reducible show wpList _ _ _ (⟨none,Op.store 38 _ _,_,_,_,_⟩::_) _ _);go_must (refine Zd (c:=((rcL 0 0 false):List Value).toArray) rfl 38 _ _ rfl w20.1.size (rcC O p9.A).toList rfl rfl (Bx.new w20 ((rcL 0 0 false):List Value).toArray 38) rfl Tryz.sz38 (by simp [Value.oneCell']) ?_;intro V21 hr hfr hsv;have BV21:=hid hr;have DV21:Below w20.1.size w20 V21:=(Zb w20 _).trans (hfr.below (B:=w20.1.size) (lrf _) (by simp));have LV21:w20.1.size<V21.1.size:=hr.lt;clear hr hfr hsv;have HB21:=hid (HB20.out.trans (DV21.mono HB20.out.size));have WS11:=hid (WS10.out.below DV21);have IO2:=hid (IO.out.below DV21 (lrf _));have IS2:=hid (IS.out.below DV21 (lrf _));clear DV21 HB20 WS10 IO IS)))
 go_upto_region 32 with (first|((with_reducible show wpList _ _ _ (⟨some 89,Op.load 38 _,_,_,_,_⟩::_) _ _);go_must (refine LD38 (rcC O p9.A).toList BV21.out.cell ?_))|((with_reducible show wpList _ _ _ (⟨some 90,Op.load 38 _,_,_,_,_⟩::_) _ _);go_must (refine LD38 (rcC O A2).toList WS11.out.v4.cell ?_))|(go_at_call 10;go_must (refine (Kg O p9.A A2 V21 w19.1.size w20.1.size (w.1.size+1) b4 (Nat.le_of_lt LV21) (by have:=WS11.out.o;omega) HOF.out IO2.out WS11.out.i4).mono ?_;rintro e w22 ⟨rfl,hbq⟩;have WS12a:=hid (WS11.out.below hbq);have WS12ab:=hid hbq;clear hbq))|(go_at_call 11;go_must (refine (eqMss_any K.hn K.hs ps9.A.ha ad2 ps9.A.hc cap2 w22 w19.1.size w20.1.size (w.1.size+1) b4 (by have:=WS12ab.out.size;omega) (by have:=WS12a.out.o;omega) (by omega) KX.out (IS2.out.below WS12ab.out (Nat.le_of_lt LV21)) WS12a.out.j4).mono ?_;rintro e w23 ⟨rfl,hbq⟩;have WS12:=hid (WS12a.out.below hbq);have WS12b:=hid (WS12ab.out.trans (hbq.mono WS12ab.out.size));clear hbq WS12a WS12ab)))
 have HB23:=hid (HB21.out.trans (WS12b.out.mono HB21.out.size))
 clear WS11 WS12b HB21 BV21 IO2 IS2
 go_upto_region 35 with (first|((with_reducible show wpList _ _ _ (⟨some 99,Op.load 38 _,_,_,_,_⟩::_) _ _);go_must (refine LD38 (rcC O p5.A).toList WS12.out.v7.cell ?_))|(go_at_call 14;go_must (refine (CH.out w23 WS12.out.a7).mono ?_;rintro e w24 ⟨rfl,hb24⟩;have WS13:=hid (WS12.out.below hb24);have HB24:=hid (HB23.out.trans (hb24.mono HB23.out.size));clear hb24 WS12 HB23)))
 go_wp2_with (go_at_call 15;go_must (refine (CL.out w24 WS13.out.m7).mono ?_;rintro e w25 ⟨rfl,hb25⟩;have HB25:=hid (HB24.out.trans (hb25.mono HB24.out.size));clear hb25 WS13 HB24))
 go_ret
 exact ⟨rfl,HB25.out⟩
end Go.Proofs.YtokkbdlofbdljaaGreat
