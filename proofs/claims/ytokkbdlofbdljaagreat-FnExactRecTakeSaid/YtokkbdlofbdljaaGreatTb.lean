import Derived.Test.YtokkbdlofbdljaaGreatHy
import Derived.Test.YtokkbdlofbdljaaGreatHd
import Derived.Test.YtokkbdlofbdljaaGreatGs
import Derived.Test.YtokkbdlofbdljaaGreatS
namespace Go.Proofs.YtokkbdlofbdljaaGreat
open Go.RowKit
open Go.ChangeShapes Go.WideShapes Go.ChangeAt Go.RowKit Go.Deep
open Go.WideMaps Go.WideElems
set_option maxHeartbeats 8000000
theorem Tryz.sz52:(Tryz.prog.info? 52).map (·.size)=some 8:=by kernel_rfl
theorem LD52 {ops:Array Oper} {rest:List Oper} {op:Oper} {a:Act} {w:World} {Q:Exit→Act→World→Prop} {x:Operand} {b:Nat} (cs:List Value) (hc:Holds w b cs.toArray) (h:wpList Tryz.prog ops Q rest (a.put op.dst (.agg cs.toArray)) w) (hgd:op.guard=none:=by rfl) (ho:op.op=.load 52 x:=by rfl) (hx:a.eval x=.pointer (some ⟨b,0,none⟩):=by rfl) (hl:some 8=some cs.length:=by rfl):wpList Tryz.prog ops Q (op::rest) a w:=wpList_load_mid hgd 52 x ho b 0 hx cs _ (Holds.range (cs:=cs) hc) Tryz.underlying52 rfl (Tryz.sz52.trans hl) h
theorem Tryz.sz48:(Tryz.prog.info? 48).map (·.size)=some 8:=by kernel_rfl
theorem LD48 {ops:Array Oper} {rest:List Oper} {op:Oper} {a:Act} {w:World} {Q:Exit→Act→World→Prop} {x:Operand} {b:Nat} (cs:List Value) (hc:Holds w b cs.toArray) (h:wpList Tryz.prog ops Q rest (a.put op.dst (.agg cs.toArray)) w) (hgd:op.guard=none:=by rfl) (ho:op.op=.load 48 x:=by rfl) (hx:a.eval x=.pointer (some ⟨b,0,none⟩):=by rfl) (hl:some 8=some cs.length:=by rfl):wpList Tryz.prog ops Q (op::rest) a w:=wpList_load_mid hgd 48 x ho b 0 hx cs _ (Holds.range (cs:=cs) hc) Tryz.underlying48 rfl (Tryz.sz48.trans hl) h
set_option maxRecDepth 100000 in
theorem take_sp_5 (r:Rc) (p:RcP) (m:Ms) (ma:Option Addr) (mc:Nat) (w:World) (hg:RcG w r p) (hk:m.kind=5) (hkn:0≤r.dk.kn∧r.dk.kn≤r.dk.n∧r.dk.n≤60) (hwn:r.wn≤1000) :
  Calls Tryz.prog 67 #[rcV r p.A,msV m ma mc] w (SpR w r p (XN r m)):=by
 have HK:=hid hk
 have hB0:Below w.1.size w (((w.alloc (.cells (rcC r p.A) 38)).alloc (.cells #[.int .i64 m.kind,.int .i64 m.from_,.int .i64 m.to,.int .i64 m.bal,.int .i64 m.ix,.int .i64 m.kn,.string m.text,.slice ma m.n mc] 52)).alloc (.cells (rcL 0 0 false).toArray 38)):=((Zb _ _).alloc (by simp) _).alloc (by simp;omega) _
 have hN:=Bx.new3 w (rcC r p.A) #[.int .i64 m.kind,.int .i64 m.from_,.int .i64 m.to,.int .i64 m.bal,.int .i64 m.ix,.int .i64 m.kn,.string m.text,.slice ma m.n mc] (rcL 0 0 false).toArray 38 52 38
 have Q0:=hid hN.1
 have M0:=hid hN.2.1
 have Z0:=hid hN.2.2
 have SF0:=hid (SpF.new (L:=w.1.size+3) hg hB0 (by omega) (by simp))
 have HB0:=hid hB0
 clear hg hN hB0 hk
 have mark:Nat:=0
 by_cases h1:m.bal<r.dk.pr
 ·skip
  have HT:=hid (show XN r m=Zo r ⟨9,0,m.from_,r.dk.pr,0,0,⟨#[]⟩,0,fun _=>⟨0,⟨#[]⟩⟩⟩ from if_pos h1)
  go_enter Tryz.func67,Tryz.ntmps67
  go_wp2_with (first|((with_reducible show wpList _ _ _ (⟨some 6,_,_,_,_,_⟩::_) _ _);clear mark;go_must ((generalize (((w.alloc (.cells (rcC r p.A) 38)).alloc (.cells #[.int .i64 m.kind,.int .i64 m.from_,.int .i64 m.to,.int .i64 m.bal,.int .i64 m.ix,.int .i64 m.kn,.string m.text,.slice ma m.n mc] 52)).alloc (.cells (rcL 0 0 false).toArray 38))=W at *);obtain ⟨q0,q1,q2,q3,q4,q5,q6,q7,q8,q9,q10,q11,q12,q13,q14,q15,q16,q17⟩:=Ze Q0.out.cell;have qf:=Q0.out.free;have qlt:=Q0.out.lt;have zlt:=Z0.out.lt;obtain ⟨m0,m1,m2,m3,m4,m5,m6,m7⟩:=Zy M0.out.cell;rw [HK.out] at m0;have mlt:=M0.out.lt;clear q0 q1 q2 q3 q4 q5 q7 q8 q9 q10 q11 q12 q13 q14 q15 q16 q17 m2 m4 m5 m6 m7))|((with_reducible show wpList _ _ _ (⟨some 146,Op.load 38 _,_,_,_,_⟩::_) _ _);go_must (refine LD38 (rcC r p.A).toList Q0.out.cell ?_))|(go_at_call 40;go_must (refine (Xd r p ⟨9,0,m.from_,r.dk.pr,0,0,⟨#[]⟩,0,fun _=>⟨0,⟨#[]⟩⟩⟩ rfl W SF0.out.g).mono ?_;rintro e wc0 ⟨p1,rfl,g1,f1,s1⟩;have SC0:=hid (SF0.out.next g1 f1 s1);have QC0:=hid (SF0.out.keep f1 Q0.out (lrf _) (by omega));have MC0:=hid (SF0.out.keep f1 M0.out (by omega) (by omega));have ZC0:=hid (SF0.out.keep f1 Z0.out (by omega) (by omega));clear g1 f1 s1 q6 m0 m1 m3 qf qlt zlt mlt))|((with_reducible show wpList _ _ _ (⟨none,Op.store 38 (Operand.tmp 4) _,_,_,_,_⟩::_) _ _);go_must (refine Zd rfl 38 _ _ rfl (w.1.size+1+1) (rcC (Zo r ⟨9,0,m.from_,r.dk.pr,0,0,⟨#[]⟩,0,fun _=>⟨0,⟨#[]⟩⟩⟩) p1.A).toList rfl rfl ZC0.out rfl Tryz.sz38 (by simp [Value.oneCell']) ?_;intro Vz hr hfr hsv;have HBVz:=hid hr;have HFVz:=hid (FrP.of_fr (P:=fun q=>q=(w.1.size+1+1)) hfr (fun k h1 h2=>by omega));clear hr hfr hsv)))
  refine RZ (rcC (Zo r ⟨9,0,m.from_,r.dk.pr,0,0,⟨#[]⟩,0,fun _=>⟨0,⟨#[]⟩⟩⟩) p1.A).toList HBVz.out.cell ?_
  rw [HT.out]
  exact (SC0.out.box HFVz.out (by omega) (by omega)).done
 ·skip
  have HT:=hid (show XN r m=KN r m from if_neg h1)
  have h1z:decide (m.bal<r.dk.pr)=false:=decide_eq_false h1
  clear h1
  go_enter Tryz.func67,Tryz.ntmps67
  go_wp2_with (first|((with_reducible show wpList _ _ _ (⟨some 6,_,_,_,_,_⟩::_) _ _);clear mark;go_must ((generalize (((w.alloc (.cells (rcC r p.A) 38)).alloc (.cells #[.int .i64 m.kind,.int .i64 m.from_,.int .i64 m.to,.int .i64 m.bal,.int .i64 m.ix,.int .i64 m.kn,.string m.text,.slice ma m.n mc] 52)).alloc (.cells (rcL 0 0 false).toArray 38))=W at *);obtain ⟨q0,q1,q2,q3,q4,q5,q6,q7,q8,q9,q10,q11,q12,q13,q14,q15,q16,q17⟩:=Ze Q0.out.cell;have qf:=Q0.out.free;have qlt:=Q0.out.lt;have zlt:=Z0.out.lt;obtain ⟨m0,m1,m2,m3,m4,m5,m6,m7⟩:=Zy M0.out.cell;rw [HK.out] at m0;have mlt:=M0.out.lt;clear q0 q1 q2 q3 q4 q5 q7 q8 q9 q10 q11 q12 q13 q14 q15 q16 q17 m1 m2 m4 m5 m6 m7))|((with_reducible show wpList _ _ _ (⟨some 154,Op.load 38 _,_,_,_,_⟩::_) _ _);go_must (refine LD38 (rcC r p.A).toList Q0.out.cell ?_))|((with_reducible show wpList _ _ _ (⟨some 155,Op.load 52 _,_,_,_,_⟩::_) _ _);go_must (refine LD52 (#[.int .i64 m.kind,.int .i64 m.from_,.int .i64 m.to,.int .i64 m.bal,.int .i64 m.ix,.int .i64 m.kn,.string m.text,.slice ma m.n mc]).toList M0.out.cell ?_))|(go_at_call 116;go_must (refine (specBeat_any r p m ma mc W SF0.out.g hkn hwn).mono ?_;rintro e wc0 ⟨p1,rfl,g1,f1,s1⟩;have SC0:=hid (SF0.out.next g1 f1 s1);have QC0:=hid (SF0.out.keep f1 Q0.out (lrf _) (by omega));have MC0:=hid (SF0.out.keep f1 M0.out (by omega) (by omega));have ZC0:=hid (SF0.out.keep f1 Z0.out (by omega) (by omega));clear g1 f1 s1 q6 m0 m3 qf qlt zlt mlt))|((with_reducible show wpList _ _ _ (⟨none,Op.store 38 (Operand.tmp 4) _,_,_,_,_⟩::_) _ _);go_must (refine Zd rfl 38 _ _ rfl (w.1.size+1+1) (rcC (KN r m) p1.A).toList rfl rfl ZC0.out rfl Tryz.sz38 (by simp [Value.oneCell']) ?_;intro Vz hr hfr hsv;have HBVz:=hid hr;have HFVz:=hid (FrP.of_fr (P:=fun q=>q=(w.1.size+1+1)) hfr (fun k h1 h2=>by omega));clear hr hfr hsv)))
  refine RZ (rcC (KN r m) p1.A).toList HBVz.out.cell ?_
  rw [HT.out]
  exact (SC0.out.box HFVz.out (by omega) (by omega)).done
theorem apTb1 {P:Prop} (h:P:=by
  go_enter Tryz.func67,Tryz.ntmps67
  go_wp2_with (first|((with_reducible show wpList _ _ _ (⟨some 6,_,_,_,_,_⟩::_) _ _);clear mark;go_must ((generalize (((w.alloc (.cells (rcC r p.A) 38)).alloc (.cells #[.int .i64 m.kind,.int .i64 m.from_,.int .i64 m.to,.int .i64 m.bal,.int .i64 m.ix,.int .i64 m.kn,.string m.text,.slice ma m.n mc] 52)).alloc (.cells (rcL 0 0 false).toArray 38))=W at *);obtain ⟨q0,q1,q2,q3,q4,q5,q6,q7,q8,q9,q10,q11,q12,q13,q14,q15,q16,q17⟩:=Ze Q0.out.cell;have qf:=Q0.out.free;have qlt:=Q0.out.lt;have zlt:=Z0.out.lt;obtain ⟨m0,m1,m2,m3,m4,m5,m6,m7⟩:=Zy M0.out.cell;rw [HK.out] at m0;rw [HKK.out] at q7;have mlt:=M0.out.lt;clear q0 q1 q2 q3 q4 q5 q8 q9 q10 q11 q12 q13 q14 q15 q16 q17 m1 m2 m5 m7))|((with_reducible show wpList _ _ _ (⟨some 267,Op.load 38 _,_,_,_,_⟩::_) _ _);go_must (refine LD38 (rcC r p.A).toList Q0.out.cell ?_))|((with_reducible show wpList _ _ _ (⟨none,Op.store 38 (Operand.tmp 4) _,_,_,_,_⟩::_) _ _);go_must (refine Zd rfl 38 _ _ rfl (w.1.size+1+1) (rcC r p.A).toList rfl rfl Z0.out rfl Tryz.sz38 (by simp [Value.oneCell']) ?_;intro Vz hr hfr hsv;have HBVz:=hid hr;have HFVz:=hid (FrP.of_fr (P:=fun q=>q=(w.1.size+1+1)) hfr (fun k h1 h2=>by omega));clear hr hfr hsv)))
  refine RZ (rcC r p.A).toList HBVz.out.cell ?_
  rw [HT.out]
  exact (SF0.out.box HFVz.out (by omega) (by omega)).done):P:=h
set_option maxRecDepth 100000 in
theorem take_sp_6 (r:Rc) (p:RcP) (m:Ms) (ma:Option Addr) (mc:Nat) (w:World) (hg:RcG w r p) (hk:m.kind=6) (hkn:0≤r.dk.kn∧r.dk.kn≤60) :
  Calls Tryz.prog 67 #[rcV r p.A,msV m ma mc] w (SpR w r p (choR r m)):=by
 have HK:=hid hk
 have hB0:Below w.1.size w (((w.alloc (.cells (rcC r p.A) 38)).alloc (.cells #[.int .i64 m.kind,.int .i64 m.from_,.int .i64 m.to,.int .i64 m.bal,.int .i64 m.ix,.int .i64 m.kn,.string m.text,.slice ma m.n mc] 52)).alloc (.cells (rcL 0 0 false).toArray 38)):=((Zb _ _).alloc (by simp) _).alloc (by simp;omega) _
 have hN:=Bx.new3 w (rcC r p.A) #[.int .i64 m.kind,.int .i64 m.from_,.int .i64 m.to,.int .i64 m.bal,.int .i64 m.ix,.int .i64 m.kn,.string m.text,.slice ma m.n mc] (rcL 0 0 false).toArray 38 52 38
 have Q0:=hid hN.1
 have M0:=hid hN.2.1
 have Z0:=hid hN.2.2
 have SF0:=hid (SpF.new (L:=w.1.size+3) hg hB0 (by omega) (by simp))
 have HB0:=hid hB0
 clear hg hN hB0 hk
 have mark:Nat:=0
 obtain ⟨k,hkk⟩:∃ k:Nat,r.dk.kn=(k:Int):=⟨r.dk.kn.toNat,by omega⟩
 have HKK:=hid hkk
 have hk60:k≤60:=by omega
 clear hkk
 by_cases h1:m.ix=r.dk.kn+1
 ·by_cases h2:0<m.bal
  ·by_cases h3:m.bal≤r.dk.pr
   ·skip
    have HT:=hid (show choR r m=(knR (putR r k ⟨m.bal,m.text⟩) ((k:Int)+1)) from (if_pos ⟨h1,J6 ⟨by omega,h3⟩⟩).trans (by rw [show r.dk.kn.toNat=k by rw [HKK.out];simp,h1,HKK.out]))
    have HIX:=hid (show m.ix=(k:Int)+1 by rw [h1,HKK.out])
    have h2z:decide (0<m.bal)=true:=decide_eq_true h2
    have h3z:decide (m.bal≤r.dk.pr)=true:=decide_eq_true h3
    have mark2:Nat:=0
    clear h1 h2 h3
    go_enter Tryz.func67,Tryz.ntmps67
    go_wp2_with (first|((with_reducible show wpList _ _ _ (⟨some 6,_,_,_,_,_⟩::_) _ _);clear mark;go_must ((generalize (((w.alloc (.cells (rcC r p.A) 38)).alloc (.cells #[.int .i64 m.kind,.int .i64 m.from_,.int .i64 m.to,.int .i64 m.bal,.int .i64 m.ix,.int .i64 m.kn,.string m.text,.slice ma m.n mc] 52)).alloc (.cells (rcL 0 0 false).toArray 38))=W at *);obtain ⟨q0,q1,q2,q3,q4,q5,q6,q7,q8,q9,q10,q11,q12,q13,q14,q15,q16,q17⟩:=Ze Q0.out.cell;have qf:=Q0.out.free;have qlt:=Q0.out.lt;have zlt:=Z0.out.lt;obtain ⟨m0,m1,m2,m3,m4,m5,m6,m7⟩:=Zy M0.out.cell;rw [HK.out] at m0;rw [HKK.out] at q7;rw [HIX.out] at m4;have mlt:=M0.out.lt;clear q0 q1 q2 q3 q4 q5 q8 q9 q10 q11 q12 q13 q14 q15 q16 q17 m1 m2 m5 m7))|((with_reducible show wpList _ _ _ (⟨some 179,Op.load 38 _,_,_,_,_⟩::_) _ _);go_must (refine LD38 (rcC r p.A).toList Q0.out.cell ?_))|(go_at_call 85;go_must (refine (set_sp r p k ⟨m.bal,m.text⟩ (by omega) W SF0.out.g).mono ?_;rintro e wc0 ⟨p1,rfl,g1,f1,s1⟩;have SC0:=hid (SF0.out.next g1 f1 s1);have QC0:=hid (SF0.out.keep f1 Q0.out (lrf _) (by omega));have MC0:=hid (SF0.out.keep f1 M0.out (by omega) (by omega));have ZC0:=hid (SF0.out.keep f1 Z0.out (by omega) (by omega));clear g1 f1 s1 q6 q7 m0 m3 m4 m6 qf qlt zlt mlt))|((with_reducible show wpList _ _ _ (⟨some 267,_,_,_,_,_⟩::_) _ _);clear mark2;go_must (have Q2:Hid (Bx (Va.setCell ⟨w.1.size,7,none⟩ (.int .i64 ((k:Int)+1))) w.1.size (rcC (knR (putR r k ⟨m.bal,m.text⟩) ((k:Int)+1)) p1.A)):=hid (Q1.out.to (Jp Q1.out.cell (.int .i64 ((k:Int)+1))));have fk:=(FrP.refl (fun q=>q=w.1.size) Va).setCell (p:=⟨w.1.size,7,none⟩) rfl (.int .i64 ((k:Int)+1));have S2:=hid (SF1.out.box fk (lrf _) (by omega));have SF2:=hid (S2.out.re (r1:=(knR (putR r k ⟨m.bal,m.text⟩) ((k:Int)+1))) (p1:=p1) (S2.out.g.kn _) (fun q hq=>hq));have Z2:=hid (Z1.out.frP fk (by omega));clear fk S2;(generalize Va.setCell ⟨w.1.size,7,none⟩ (.int .i64 ((k:Int)+1))=Vb at *);clear q7 m4 qf qlt mlt zlt))|((with_reducible show wpList _ _ _ (⟨some 267,Op.load 38 _,_,_,_,_⟩::_) _ _);go_must (refine LD38 (rcC (knR (putR r k ⟨m.bal,m.text⟩) ((k:Int)+1)) p1.A).toList Q2.out.cell ?_))|((with_reducible show wpList _ _ _ (⟨none,Op.store 38 (Operand.tmp 4) _,_,_,_,_⟩::_) _ _);go_must (refine Zd rfl 38 _ _ rfl (w.1.size+1+1) (rcC (knR (putR r k ⟨m.bal,m.text⟩) ((k:Int)+1)) p1.A).toList rfl rfl Z2.out rfl Tryz.sz38 (by simp [Value.oneCell']) ?_;intro Vz hr hfr hsv;have HBVz:=hid hr;have HFVz:=hid (FrP.of_fr (P:=fun q=>q=(w.1.size+1+1)) hfr (fun k h1 h2=>by omega));clear hr hfr hsv))|((with_reducible show wpList _ _ _ (⟨none,Op.store 38 (Operand.tmp 2) (Operand.tmp 187),_,_,_,_⟩::_) _ _);go_must (refine Zd rfl 38 _ _ rfl w.1.size (rcC (putR r k ⟨m.bal,m.text⟩) p1.A).toList rfl rfl QC0.out rfl Tryz.sz38 (by simp [Value.oneCell']) ?_;intro Va hr hfr hsv;have HBVa:=hid hr;have HFVa:=hid (FrP.of_fr (P:=fun q=>q=w.1.size) hfr (fun k h1 h2=>by omega));clear hr hfr hsv;have SF1:=hid (SC0.out.box HFVa.out (lrf _) (by omega));have Q1:=HBVa;have M1:=hid (MC0.out.frP HFVa.out (by omega));have Z1:=hid (ZC0.out.frP HFVa.out (by omega));clear HFVa;obtain ⟨q0,q1,q2,q3,q4,q5,q6,q7,q8,q9,q10,q11,q12,q13,q14,q15,q16,q17⟩:=Ze Q1.out.cell;have qf:=Q1.out.free;have qlt:=Q1.out.lt;have zlt:=Z1.out.lt;obtain ⟨m0,m1,m2,m3,m4,m5,m6,m7⟩:=Zy M1.out.cell;have mlt:=M1.out.lt;clear q0 q1 q2 q3 q4 q5 q6 q8 q9 q10 q11 q12 q13 q14 q15 q16 q17 m0 m1 m2 m3 m5 m6 m7;rw [HIX.out] at m4)))
    refine RZ (rcC (knR (putR r k ⟨m.bal,m.text⟩) ((k:Int)+1)) p1.A).toList HBVz.out.cell ?_
    rw [HT.out]
    exact (SF2.out.box HFVz.out (by omega) (by omega)).done
   ·skip
    have HT:=hid (show choR r m=r from if_neg (fun h=>by have:=Yj h.2;omega))
    have h1z:(m.ix==(k:Int)+1)=true:=by simp;rw [←HKK.out];exact h1
    have h2z:decide (0<m.bal)=true:=decide_eq_true h2
    have h3z:decide (m.bal≤r.dk.pr)=false:=decide_eq_false h3
    clear h1 h2 h3
    exact apTb1
  ·skip
   have HT:=hid (show choR r m=r from if_neg (fun h=>by have:=Yj h.2;omega))
   have h1z:(m.ix==(k:Int)+1)=true:=by simp;rw [←HKK.out];exact h1
   have h2z:decide (0<m.bal)=false:=decide_eq_false h2
   clear h1 h2
   exact apTb1
 ·skip
  have HT:=hid (show choR r m=r from if_neg (fun h=>h1 h.1))
  have h1z:(m.ix==(k:Int)+1)=false:=by simp;rw [←HKK.out];exact h1
  clear h1
  exact apTb1
theorem holdR_ld (r:Rc) (m:Ms):(Zo r m).ld=r.ld:=by unfold Zo;split<;>rfl
theorem needK_ld (r:Rc) (m:Ms) (a:Nat):∀ k,(Xc r m a k).ld=r.ld
 | 0=>rfl
 | k+1=>(holdR_ld _ _).trans (needK_ld r m a k)
theorem apTb2 {P:Prop} (h:P:=by
  clear z1 hor hiv hiv2 hixa
  go_wp2_with (first|((with_reducible show wpList _ _ _ (⟨some 267,Op.load 38 _,_,_,_,_⟩::_) _ _);go_must (refine LD38 (rcC rk pk.A).toList BK.out.cell ?_))|((with_reducible show wpList _ _ _ (⟨none,Op.store 38 _ _,_,_,_,_⟩::_) _ _);go_must (refine Zd rfl 38 _ _ rfl (w.1.size+1+1) (rcC rk pk.A).toList rfl rfl ZK.out rfl Tryz.sz38 (by simp [Value.oneCell']) ?_;intro Vz hr hfr hsv;have HBVz:=hid hr;have HFVz:=hid (FrP.of_fr (P:=fun q=>q=(w.1.size+1+1)) hfr (fun k h1 h2=>by omega));clear hr hfr hsv)))
  refine RZ (rcC rk pk.A).toList HBVz.out.cell ?_
  have e9:=HKE.out
  have e8:=HRK.out
  subst e9
  subst e8
  rw [HT.out]
  exact (SK.out.box HFVz.out (by omega) (by omega)).done):P:=h
theorem apTb3 {P:Prop} (h:P:=by
  rw [HLD.out] at q11
  have hBz:=Q0.out.lt
  have hMz:=M0.out.lt
  go_wp2_with (first|((with_reducible show wpList _ _ _ (⟨some 267,Op.load 38 _,_,_,_,_⟩::_) _ _);go_must (refine LD38 (rcC r p.A).toList Q0.out.cell ?_))|((with_reducible show wpList _ _ _ (⟨none,Op.store 38 _ _,_,_,_,_⟩::_) _ _);go_must (refine Zd rfl 38 _ _ rfl (w.1.size+1+1) (rcC r p.A).toList rfl rfl Z0.out rfl Tryz.sz38 (by simp [Value.oneCell']) ?_;intro Vz hr hfr hsv;have HBVz:=hid hr;have HFVz:=hid (FrP.of_fr (P:=fun q=>q=(w.1.size+1+1)) hfr (fun k h1 h2=>by omega));clear hr hfr hsv)))
  refine RZ (rcC r p.A).toList HBVz.out.cell ?_
  rw [HT.out]
  exact (SF0.out.box HFVz.out (by omega) (by omega)).done):P:=h
set_option maxRecDepth 100000 in
theorem take_sp_7 (r:Rc) (p:RcP) (m:Ms) (ma:Option Addr) (mc:Nat) (w:World) (hg:RcG w r p) (hk:m.kind=7) (hix:0≤m.ix∧m.ix≤60) (hkn:0≤r.dk.kn∧r.dk.kn≤r.dk.n∧r.dk.n≤60) :
  Calls Tryz.prog 67 #[rcV r p.A,msV m ma mc] w (SpR w r p (XD r m)):=by
 have HK:=hid hk
 have hB0:Below w.1.size w (((w.alloc (.cells (rcC r p.A) 38)).alloc (.cells #[.int .i64 m.kind,.int .i64 m.from_,.int .i64 m.to,.int .i64 m.bal,.int .i64 m.ix,.int .i64 m.kn,.string m.text,.slice ma m.n mc] 52)).alloc (.cells (rcL 0 0 false).toArray 38)):=((Zb _ _).alloc (by simp) _).alloc (by simp;omega) _
 have hN:=Bx.new3 w (rcC r p.A) #[.int .i64 m.kind,.int .i64 m.from_,.int .i64 m.to,.int .i64 m.bal,.int .i64 m.ix,.int .i64 m.kn,.string m.text,.slice ma m.n mc] (rcL 0 0 false).toArray 38 52 38
 have Q0:=hid hN.1
 have M0:=hid hN.2.1
 have Z0:=hid hN.2.2
 have SF0:=hid (SpF.new (L:=w.1.size+3) hg hB0 (by omega) (by simp))
 have HB0:=hid hB0
 clear hg hN hB0 hk
 have mark:Nat:=0
 by_cases h1:r.ld=true
 ·by_cases h2:m.ix=0
  ·skip
   have HT:=hid (show XD r m=r from if_neg (fun h=>absurd h2 h.2))
   have HI0:=hid h2
   have HLD:=hid h1
   clear h1 h2
   go_enter Tryz.func67,Tryz.ntmps67
   go_wp2_with ((with_reducible show wpList _ _ _ (⟨some 6,_,_,_,_,_⟩::_) _ _);clear mark;go_must ((generalize (((w.alloc (.cells (rcC r p.A) 38)).alloc (.cells #[.int .i64 m.kind,.int .i64 m.from_,.int .i64 m.to,.int .i64 m.bal,.int .i64 m.ix,.int .i64 m.kn,.string m.text,.slice ma m.n mc] 52)).alloc (.cells (rcL 0 0 false).toArray 38))=W at *);obtain ⟨m0,m1,m2,m3,m4,m5,m6,m7⟩:=Zy M0.out.cell;rw [HK.out] at m0;rw [HI0.out] at m4;have mlt:=M0.out.lt;clear m1 m2 m3 m5 m6 m7))
   clear m0 m4 mlt
   go_loopw [5] (fun i wr=>i=.int .i64 0∧wr=W) (fun _ _=>0)
   case atStart=>exact ⟨rfl,rfl⟩
   case round=>
    obtain ⟨rfl,rfl⟩:=hrel
    obtain ⟨q0,q1,q2,q3,q4,q5,q6,q7,q8,q9,q10,q11,q12,q13,q14,q15,q16,q17⟩:=Ze Q0.out.cell
    obtain ⟨m0,m1,m2,m3,m4,m5,m6,m7⟩:=Zy M0.out.cell
    clear q0 q1 q2 q3 q4 q5 q6 q8 q9 q10 q12 q13 q14 q15 q16 q17 m0 m1 m2 m3 m4 m5 m6 m7
    exact apTb3
  ·obtain ⟨a,hia⟩:∃ a:Nat,m.ix=(a:Int)+1:=⟨(m.ix-1).toNat,by omega⟩
   have HT:=hid (show XD r m=Xc r m a (Jf r m) from (if_pos ⟨h1,by omega⟩).trans (by rw [show (m.ix-1).toNat=a by omega]))
   have HLD:=hid h1
   have HIX:=hid hia
   have HNL:=hid (show ∀ k:Nat,k<Jf r m↔((a:Int)+k+1≤r.dk.kn∧k<5) from fun k=>by unfold Jf;rw [hia];split<;>constructor<;>intro h<;>omega)
   clear h1 h2 hia
   go_enter Tryz.func67,Tryz.ntmps67
   go_wp2_with ((with_reducible show wpList _ _ _ (⟨some 6,_,_,_,_,_⟩::_) _ _);clear mark;go_must ((generalize (((w.alloc (.cells (rcC r p.A) 38)).alloc (.cells #[.int .i64 m.kind,.int .i64 m.from_,.int .i64 m.to,.int .i64 m.bal,.int .i64 m.ix,.int .i64 m.kn,.string m.text,.slice ma m.n mc] 52)).alloc (.cells (rcL 0 0 false).toArray 38))=W at *);obtain ⟨m0,m1,m2,m3,m4,m5,m6,m7⟩:=Zy M0.out.cell;rw [HK.out] at m0;rw [HIX.out] at m4;have mlt:=M0.out.lt;clear m1 m2 m3 m5 m6 m7))
   clear m0 m4 mlt
   go_loopw [5] (fun i wr=>∃ k pk,k≤Jf r m∧i=.int .i64 ((a+k+1:Nat):Int)∧SpF w (w.1.size+3) r p wr (Xc r m a k) pk∧Bx wr w.1.size (rcC (Xc r m a k) pk.A)∧Bx wr (w.1.size+1) #[.int .i64 m.kind,.int .i64 m.from_,.int .i64 m.to,.int .i64 m.bal,.int .i64 m.ix,.int .i64 m.kn,.string m.text,.slice ma m.n mc]∧Bx wr (w.1.size+1+1) (rcL 0 0 false).toArray) (fun i _=>Jf r m+a+1-(intOf i).toNat)
   case atStart=>exact ⟨0,p,zle _,by simp,SF0.out,Q0.out,M0.out,Z0.out⟩
   case round=>
    obtain ⟨k,pk,hkl,rfl,sk,bk,mk,zk⟩:=hrel
    obtain ⟨iv,hiv⟩:∃ iv:Int,((a+k+1:Nat):Int)=iv:=⟨_,rfl⟩
    rw [hiv]
    have HIV:=hid hiv
    have hiv2:iv=(a:Int)+(k:Int)+1:=by omega
    have SK:=hid sk
    have BK:=hid bk
    have MK:=hid mk
    have ZK:=hid zk
    have HKL:=hid hkl
    have HDK:=hid (Ui r m a k)
    have HLK:=hid (needK_ld r m a k)
    have HNK:=hid (HNL.out k)
    clear sk bk mk zk hkl SF0 Q0 M0 Z0 HNL
    obtain ⟨rk,hrk⟩:∃ rk,Xc r m a k=rk:=⟨_,rfl⟩
    have HRK:=hid hrk
    rw [hrk] at SK BK HDK HLK
    clear hrk
    have c11:wr.cell? ⟨w.1.size,11,none⟩=some (.bool true):=(BK.out.cell 11).trans (by rw [←HLD.out,←HLK.out];rfl)
    have c7:wr.cell? ⟨w.1.size,7,none⟩=some (.int .i64 r.dk.kn):=(BK.out.cell 7).trans (by rw [←HDK.out];rfl)
    have c4:wr.cell? ⟨(w.1.size+1),4,none⟩=some (.int .i64 m.ix):=MK.out.cell 4
    have hixa:=HIX.out
    obtain ⟨hix1,hix2⟩:=hix
    have hBz:=BK.out.lt
    have hMz:=MK.out.lt
    have z0:decide ((0:Int)<iv)=true:=decide_eq_true (by omega)
    by_cases hkn:k<Jf r m
    ·obtain ⟨n1,n2⟩:=HNK.out.1 hkn
     have hkd:a+k<rk.dk.n:=by rw [HDK.out];omega
     have hdn60:rk.dk.n≤60:=by rw [HDK.out];omega
     have z1:decide (iv<m.ix+5)=true:=decide_eq_true (by omega)
     have z2:decide (iv≤r.dk.kn)=true:=decide_eq_true (by omega)
     clear hiv hiv2 hixa
     have o1:=SK.out.g.at_.o1
     have eD:pk.A.da=some ⟨pk.g1,0,none⟩:=o1.addr (by omega)
     obtain ⟨cc,rr,hat⟩:=o1.row (by omega)
     have hs1:=hid (show wr.cell? ⟨pk.g1,(a+k)*2+1,none⟩=some (.string (rk.dk.s (a+k)).text) from by rw [rr.cell _ (by omega),(hat (a+k) hkd).2])
     have hgl:=rr.lt
     have c8:=hid (show wr.cell? ⟨w.1.size,8,none⟩=some (.slice (some ⟨pk.g1,0,none⟩) rk.dk.n pk.A.dc) from by rw [←eD];exact BK.out.cell 8)
     clear o1 rr hat eD
     go_wp2
     clear c11 c7 c4 z1 z2 z0
     have eiv:=HIV.out
     subst eiv
     skip
     refine ltkReg34 _ _ _ _ _ _ _ _ _ _ _ _ _ _ _ _ _ _ _ _ _ _ _ _ _ _ _ _ _ _ _ _ _ _ _ _ _ _ _ _ _ _ _ _ _ _ _ _ _ _ _ _ _ _ _ _ _ _ _ _ _ _ _ _ _ _ _ _ _ _ _ _ _ _ _ _ _ _ _ _ _ _ _ _ _ _ _ _ _ _ _ _ _ _ _ _ _ _ _ _ _ _ _ _ _ _ _ _ _ _ _ _ _ _ _ _ _ _ _ _ _ _ _ _ _ _ _ _ _ _ _ _ _ _ _ _ _ _ _ _ _ _ _ _ _ _ _ _ _ _ _ _ _ _ _ _ _ _ _ _ _ _ _ _ _ _ _ _ _ _ _ _ _ _ _ _ _ _ _ _ _ _ _ _ _ _ _ _ _ _ _ _ _ _ _ _ _ _ _ _ _ _ _ _ _ _ _ _ _ _ _ _ _ _ _ _ _ _ _ _ _ _ _ _ _ _ _ _ _ _ _ _ _ _ _ _ _ _ _ _ _ _ _ _ _ _ _ _ _ _ _ _ _ _ _ _ _ _ _ _ _ _ _ _ _ w.1.size (w.1.size+1) pk.g1 (a+k) rk.dk.n pk.A.dc m.from_ (rk.dk.s (a+k)).text rk pk (Zo rk (KI rk m (a+k))) wr (fun p' Y=>RcG Y (Zo rk (KI rk m (a+k))) p'∧FrP (rbs pk rk) wr Y∧(∀ q,rbs p' (Zo rk (KI rk m (a+k))) q→rbs pk rk q∨wr.1.size≤q)) BK.out MK.out.lt hgl hkd (by omega) (MK.out.cell 1) c8.out hs1.out (fun X hb=>(Xd rk pk (KI rk m (a+k)) rfl X (SK.out.g.grow hb)).mono fun e w' ⟨p',he,h1,h2,h3⟩=>⟨p',he,h1,(FrP.of_below (P:=rbs pk rk) hb).trans h2,fun q hq=>by rcases h3 q hq with h|h;exact Or.inl h;exact Or.inr (ltr hb.size h)⟩) (fun p' Y hr=>⟨_,SK.out.keep hr.2.1 BK.out (lrf _) (by omega),rfl⟩) _ ?_
     rintro t9 v9 wz ⟨p',Y,⟨g1,f1,s1⟩,bz,fz,_⟩
     have fz2:FrP (fun q=>q=w.1.size) Y wz:=FrP.of_fr fz (fun k h1 h2=>by omega)
     have SK2:=hid ((SK.out.next g1 f1 s1).box fz2 (lrf _) (by omega))
     have BK2:=hid bz
     have MK2:=hid ((SK.out.keep f1 MK.out (by omega) (by omega)).frP fz2 (by omega))
     have ZK2:=hid ((SK.out.keep f1 ZK.out (by omega) (by omega)).frP fz2 (by omega))
     clear g1 f1 s1 bz fz fz2 SK BK MK ZK hs1 c8
     go_wp2
     go_roundw
     case rel=>
      have e1:=HRK.out
      subst e1
      exact ⟨k+1,p',by omega,by go_num,SK2.out,BK2.out,MK2.out,ZK2.out⟩
     case measure=>simp [intOf];omega
    ·have hke:k=Jf r m:=by have:=HKL.out;omega
     have HKE:=hid hke
     have hnk:=fun h=>hkn (HNK.out.2 h)
     clear hke
     have hor:r.dk.kn<(a:Int)+k+1∨5≤k:=by by_cases h:(a:Int)+k+1≤r.dk.kn;exact Or.inr (by by_cases h5:k<5;exact absurd ⟨h,h5⟩ hnk;omega);exact Or.inl (by omega)
     clear hnk hkn
     have HE:Hid (SpR w r p (XD r m) (.returned (rcV rk pk.A)) wr→True):=fun _=>trivial
     by_cases z1:iv<m.ix+5
     ·have z1t:decide (iv<m.ix+5)=true:=decide_eq_true z1
      have z2:decide (iv≤r.dk.kn)=false:=decide_eq_false (by omega)
      exact apTb2
     ·have z1f:decide (iv<m.ix+5)=false:=decide_eq_false z1
      exact apTb2
 ·skip
  have HT:=hid (show XD r m=r from if_neg (fun h=>absurd h.1 h1))
  have HLD:=hid (show r.ld=false by simpa using h1)
  clear h1
  go_enter Tryz.func67,Tryz.ntmps67
  go_wp2_with ((with_reducible show wpList _ _ _ (⟨some 6,_,_,_,_,_⟩::_) _ _);clear mark;go_must ((generalize (((w.alloc (.cells (rcC r p.A) 38)).alloc (.cells #[.int .i64 m.kind,.int .i64 m.from_,.int .i64 m.to,.int .i64 m.bal,.int .i64 m.ix,.int .i64 m.kn,.string m.text,.slice ma m.n mc] 52)).alloc (.cells (rcL 0 0 false).toArray 38))=W at *);obtain ⟨m0,m1,m2,m3,m4,m5,m6,m7⟩:=Zy M0.out.cell;rw [HK.out] at m0;have mlt:=M0.out.lt;clear m1 m2 m3 m5 m6 m7))
  clear m0 m4 mlt
  go_loopw [5] (fun i wr=>i=.int .i64 m.ix∧wr=W) (fun _ _=>0)
  case atStart=>exact ⟨rfl,rfl⟩
  case round=>
   obtain ⟨rfl,rfl⟩:=hrel
   obtain ⟨q0,q1,q2,q3,q4,q5,q6,q7,q8,q9,q10,q11,q12,q13,q14,q15,q16,q17⟩:=Ze Q0.out.cell
   obtain ⟨m0,m1,m2,m3,m4,m5,m6,m7⟩:=Zy M0.out.cell
   clear q0 q1 q2 q3 q4 q5 q6 q8 q9 q10 q12 q13 q14 q15 q16 q17 m0 m1 m2 m3 m5 m6 m7
   exact apTb3
theorem WsOk.grow {w w':World} {r:Rc} {p:RcP} (h:WsOk w r p) (hb:Below w.1.size w w') (_hl:∀ q,rbs p r q→q<w.1.size):WsOk w' r p:=
 ⟨h.le,h.zero,fun h0=>⟨(h.at_ h0).1,Ye (h.at_ h0).2 (FrP.of_below (P:=fun _=>False) hb) (fun e=>e)⟩,h.da,h.dc⟩
theorem RcAt.wishInP {w w':World} {r:Rc} {p:RcP} (h:RcAt w r p) {P:Nat→Prop} (hf:FrP P w w') (hp:∀ j k,j<7→j≠3→rb p r j k→¬P k) {g c:Nat} {ad:Option Addr} (a:ByteArray) (hl:g<w'.1.size) (o:StrsOwn w' g (g+1) ad (r.wn+1) (updF r.ws r.wn a)):RcIn w' 0 w'.1.size (UE r a) { p.A with wa:=ad,wc:=c }:=by
 have lt:∀ j k,j<7→rb p r j k→0≤k∧k<w'.1.size:=fun j k hj hk=>⟨zle _,ltl (h.lt k ⟨j,hj,hk⟩) hf.size⟩
 exact ⟨(h.o0.frP hf (fun h0=>⟨hp 0 _ (by omega) (by omega) ⟨h0,rfl⟩,h.lt _ ⟨0,by omega,h0,rfl⟩⟩)).isIn (fun h0=>lt 0 _ (by omega) ⟨h0,rfl⟩),
  (h.o1.frP hf (fun h0=>⟨hp 1 _ (by omega) (by omega) ⟨h0,rfl⟩,h.lt _ ⟨1,by omega,h0,rfl⟩⟩)).isIn (fun h0=>lt 1 _ (by omega) ⟨h0,rfl⟩),
  (h.o2.fr hf (fun k hk=>hp 2 k (by omega) (by omega) hk)).isIn (fun k hk=>lt 2 k (by omega) hk),
  o.in0 (fun _=>⟨zle _,hl⟩),
  (h.o4.frP hf (fun h0=>⟨hp 4 _ (by omega) (by omega) ⟨h0,rfl⟩,h.lt _ ⟨4,by omega,h0,rfl⟩⟩)).in0 (fun h0=>lt 4 _ (by omega) ⟨h0,rfl⟩),
  (h.o5.frP hf (fun h0=>⟨hp 5 _ (by omega) (by omega) ⟨h0,rfl⟩,h.lt _ ⟨5,by omega,h0,rfl⟩⟩)).isIn (fun h0=>lt 5 _ (by omega) ⟨h0,rfl⟩),
  (h.o6.fr hf (fun k hk=>hp 6 k (by omega) (by omega) hk)).isIn (fun k hk=>lt 6 k (by omega) hk)⟩
def SX (r:Rc) (p:RcP) (a:ByteArray) (w:World) (e:Ending) (w':World):Prop:=∃ A',e=.returned (rcV (Yg r a) A')∧(∀ Y,FrP (fun q=>¬rbs p r q∧q<w.1.size) w' Y→RcIn Y 0 Y.1.size (Yg r a) A')∧FrP (rb p r 3) w w'
theorem SX_no {r:Rc} {p:RcP} {a:ByteArray} {w W:World} (h:YE r a=false) (hat:RcAt w r p) (hb:Below w.1.size w W):SX r p a w (.returned (rcV r p.A)) W:=by
 have e:Yg r a=r:=by simp [Yg,h]
 unfold SX
 rw [e]
 exact ⟨p.A,rfl,fun Y hy=>((hat.grow hb).fr hy (fun k hk e=>e.1 hk)).isIn (fun k hk=>⟨zle _,ltl (hat.lt k hk) (ltr hb.size hy.size)⟩),FrP.of_below hb⟩
theorem apTb0 {P:Prop} (h:P:=by
  go_enter Tryz.func71,Tryz.ntmps71
  go_wp2_with (first|((with_reducible show wpList _ _ _ (⟨some 15,_,_,_,_,_⟩::_) _ _);clear mark;have Q0:=(Bx.new2 w (rcC r (pD pp gd).A) (rcL 0 0 false).toArray 38 38).1;have Z0:=hid (Bx.new2 w (rcC r (pD pp gd).A) (rcL 0 0 false).toArray 38 38).2;have hB0:Below w.1.size w ((w.alloc (.cells (rcC r (pD pp gd).A) 38)).alloc (.cells (rcL 0 0 false).toArray 38)):=(Zb _ _).alloc (by simp) _;(generalize (w.alloc (.cells (rcC r (pD pp gd).A) 38)).alloc (.cells (rcL 0 0 false).toArray 38)=W at *);have HQ:=hid Q0;obtain ⟨p0,p1,p2,p3,p4,p5,p6,p7,p8,p9,p10,p11,p12,p13,p14,p15,p16,p17⟩:=Ze Q0.cell;have qf:=Q0.free;have qlt:w.1.size<W.1.size:=Q0.lt;clear Q0)|((with_reducible show wpList _ _ _ (⟨some 31,_,_,_,_,_⟩::_) _ _);clear mark;have Q0:=(Bx.new2 w (rcC r (pD pp gd).A) (rcL 0 0 false).toArray 38 38).1;have Z0:=hid (Bx.new2 w (rcC r (pD pp gd).A) (rcL 0 0 false).toArray 38 38).2;have hB0:Below w.1.size w ((w.alloc (.cells (rcC r (pD pp gd).A) 38)).alloc (.cells (rcL 0 0 false).toArray 38)):=(Zb _ _).alloc (by simp) _;(generalize (w.alloc (.cells (rcC r (pD pp gd).A) 38)).alloc (.cells (rcL 0 0 false).toArray 38)=W at *);have HQ:=hid Q0;obtain ⟨p0,p1,p2,p3,p4,p5,p6,p7,p8,p9,p10,p11,p12,p13,p14,p15,p16,p17⟩:=Ze Q0.cell;have qf:=Q0.free;have qlt:w.1.size<W.1.size:=Q0.lt;clear Q0)|((with_reducible show wpList _ _ _ (⟨some 31,Op.load 38 _,_,_,_,_⟩::_) _ _);(clear p0 p1 p2 p3 p4 p5 p6 p7 p8 p9 p10 p11 p12 p13 p14 p15 p16 p17);refine LD38 (rcC r (pD pp gd).A).toList HQ.out.cell ?_)|((with_reducible show wpList _ _ _ (⟨none,Op.store 38 _ _,_,_,_,_⟩::_) _ _);refine Zd rfl 38 _ _ rfl (w.1.size+1) (rcC r (pD pp gd).A).toList rfl rfl Z0.out rfl Tryz.sz38 (by simp [Value.oneCell']) ?_;intro V hr hfr hsv;have HBV:=hid hr;have HFV:=hid hfr;clear hr hfr hsv))
  have hBV:Below w.1.size w V:=hB0.trans (HFV.out.below (B:=w.1.size) (Nat.le_succ _) hB0.size)
  exact bodyPost_ret (v:=.agg (rcC r (pD pp gd).A)) (Zv rfl _ _ (w.1.size+1) (rcC r (pD pp gd).A).toList _ rfl (Holds.range (cs:=(rcC r (pD pp gd).A).toList) HBV.out.cell) Tryz.underlying38 rfl Tryz.sz38) rfl (SX_no HW.out HAT.out hBV)):P:=h
theorem apTb4 {P:Prop} (h:P:=by
  have hBV:Below w.1.size w V:=hB0.trans (HFV.out.below (B:=w.1.size) (Nat.le_succ _) hB0.size)
  exact bodyPost_ret (v:=.agg (rcC r (pD pp gd).A)) (Zv rfl _ _ (w.1.size+1) (rcC r (pD pp gd).A).toList _ rfl (Holds.range (cs:=(rcC r (pD pp gd).A).toList) HBV.out.cell) Tryz.underlying38 rfl Tryz.sz38) rfl (SX_no HW.out HAT.out hBV)):P:=h
set_option maxRecDepth 100000 in
theorem sWishXD (r:Rc) (pp:RcP) (gd:Nat) (a:ByteArray) (w:World) (hm:ZW r) (hat:RcAt w r (pD pp gd)) (hws:WsOk w r (pD pp gd)) (hk0:0≤r.dk.kn) (hk1:r.dk.kn≤r.dk.n) (hbal:∀ i,i<r.dk.kn.toNat→0<(r.dk.s i).bal) (_ha:(a.size:Int)≤140737488355328) :
  Calls Tryz.prog 71 #[rcV r (pD pp gd).A,.string a] w (SX r (pD pp gd) a w):=by
 have HM:=hid hm
 have HAT:=hid hat
 have HWS:=hid hws
 have HBL:=hid hbal
 have HD:Hid (SlsIn w 0 w.1.size (pD pp gd).A.da r.dk.n r.dk.s):=hat.o1.isIn (fun h0=>⟨zle _,hat.lt _ ⟨1,by omega,h0,rfl⟩⟩)
 have HS:Hid (StrsIn w 0 w.1.size (pD pp gd).A.wa r.wn r.ws):=hat.o3.in0 (fun h0=>⟨zle _,hat.lt _ ⟨3,by omega,h0,rfl⟩⟩)
 have l1:(r.wn:Int)≤1048576:=hm.wn
 have l2:(r.dk.n:Int)≤1048576:=hm.dk
 have k2:r.dk.kn≤pp.A.dc:=by have h9:r.dk.n≤pp.A.dc:=hws.dc;omega
 have k3:r.dk.kn.toNat≤pp.A.dc:=by omega
 clear hm hat hws hbal
 obtain ⟨b4,h4⟩:∃ b,hasB r.dk.kn.toNat (fun i=>(r.dk.s i).text) a=b:=⟨_,rfl⟩
 have HO:Hid (YE r a=(inB a.size 1 100&&(decide ((r.wn:Int)<20)&&(!hasB r.wn r.ws a && !b4)))):=by rw [←h4];rfl
 have mark:Nat:=0
 by_cases s1:(a.size:Int)<1
 ·have HW:=hid (show YE r a=false by rw [HO.out,Kx (Or.inl s1)];rfl)
  exact apTb0
 by_cases s2:(100:Int)<a.size
 ·have HW:=hid (show YE r a=false by rw [HO.out,Kx (Or.inr s2)];rfl)
  exact apTb0
 by_cases s3:(r.wn:Int)<20
 rotate_left
 ·have HW:=hid (show YE r a=false by rw [HO.out];simp [s3])
  have s3':(20:Int)≤r.wn:=by omega
  exact apTb0
 cases b4
 rotate_left
 ·have HW:=hid (show YE r a=false by rw [HO.out];simp)
  go_enter Tryz.func71,Tryz.ntmps71
  go_wp2_with (first|((with_reducible show wpList _ _ _ (⟨some 15,_,_,_,_,_⟩::_) _ _);clear mark;have Q0:=(Bx.new2 w (rcC r (pD pp gd).A) (rcL 0 0 false).toArray 38 38).1;have Z0:=hid (Bx.new2 w (rcC r (pD pp gd).A) (rcL 0 0 false).toArray 38 38).2;have hB0:Below w.1.size w ((w.alloc (.cells (rcC r (pD pp gd).A) 38)).alloc (.cells (rcL 0 0 false).toArray 38)):=(Zb _ _).alloc (by simp) _;(generalize (w.alloc (.cells (rcC r (pD pp gd).A) 38)).alloc (.cells (rcL 0 0 false).toArray 38)=W at *);have HQ:=hid Q0;obtain ⟨p0,p1,p2,p3,p4,p5,p6,p7,p8,p9,p10,p11,p12,p13,p14,p15,p16,p17⟩:=Ze Q0.cell;have qf:=Q0.free;have qlt:w.1.size<W.1.size:=Q0.lt;clear Q0)|((with_reducible show wpList _ _ _ (⟨some 31,_,_,_,_,_⟩::_) _ _);clear mark;have Q0:=(Bx.new2 w (rcC r (pD pp gd).A) (rcL 0 0 false).toArray 38 38).1;have Z0:=hid (Bx.new2 w (rcC r (pD pp gd).A) (rcL 0 0 false).toArray 38 38).2;have hB0:Below w.1.size w ((w.alloc (.cells (rcC r (pD pp gd).A) 38)).alloc (.cells (rcL 0 0 false).toArray 38)):=(Zb _ _).alloc (by simp) _;(generalize (w.alloc (.cells (rcC r (pD pp gd).A) 38)).alloc (.cells (rcL 0 0 false).toArray 38)=W at *);have HQ:=hid Q0;obtain ⟨p0,p1,p2,p3,p4,p5,p6,p7,p8,p9,p10,p11,p12,p13,p14,p15,p16,p17⟩:=Ze Q0.cell;have qf:=Q0.free;have qlt:w.1.size<W.1.size:=Q0.lt;clear Q0)|(go_at_call 33;refine (has_any r.dk.kn.toNat r.dk.s (some ⟨gd,0,none⟩) _ a _ 0 w.1.size (by omega) HBL.out ((HD.out.take (by omega)).below hB0 (lrf _))).mono ?_;rintro e w0 ⟨rfl,hq⟩;replace hq:=hq.symm;subst hq;rw [h4])|((with_reducible show wpList _ _ _ (⟨some 31,Op.load 38 _,_,_,_,_⟩::_) _ _);(clear p0 p1 p2 p3 p4 p5 p6 p7 p8 p9 p10 p11 p12 p13 p14 p15 p16 p17);refine LD38 (rcC r (pD pp gd).A).toList HQ.out.cell ?_)|((with_reducible show wpList _ _ _ (⟨none,Op.store 38 _ _,_,_,_,_⟩::_) _ _);refine Zd rfl 38 _ _ rfl (w.1.size+1) (rcC r (pD pp gd).A).toList rfl rfl Z0.out rfl Tryz.sz38 (by simp [Value.oneCell']) ?_;intro V hr hfr hsv;have HBV:=hid hr;have HFV:=hid hfr;clear hr hfr hsv))
  exact apTb4
 go_enter Tryz.func71,Tryz.ntmps71
 go_wp2_with (first|((with_reducible show wpList _ _ _ (⟨some 15,_,_,_,_,_⟩::_) _ _);clear mark;have Q0:=(Bx.new2 w (rcC r (pD pp gd).A) (rcL 0 0 false).toArray 38 38).1;have Z0:=hid (Bx.new2 w (rcC r (pD pp gd).A) (rcL 0 0 false).toArray 38 38).2;have hB0:Below w.1.size w ((w.alloc (.cells (rcC r (pD pp gd).A) 38)).alloc (.cells (rcL 0 0 false).toArray 38)):=(Zb _ _).alloc (by simp) _;(generalize (w.alloc (.cells (rcC r (pD pp gd).A) 38)).alloc (.cells (rcL 0 0 false).toArray 38)=W at *);have HQ:=hid Q0;obtain ⟨p0,p1,p2,p3,p4,p5,p6,p7,p8,p9,p10,p11,p12,p13,p14,p15,p16,p17⟩:=Ze Q0.cell;have qf:=Q0.free;have qlt:w.1.size<W.1.size:=Q0.lt;clear Q0)|(go_at_call 33;refine (has_any r.dk.kn.toNat r.dk.s (some ⟨gd,0,none⟩) _ a _ 0 w.1.size (by omega) HBL.out ((HD.out.take (by omega)).below hB0 (lrf _))).mono ?_;rintro e w0 ⟨rfl,hq⟩;replace hq:=hq.symm;subst hq;rw [h4]))
 go_loopw [5] (fun i wr=>∃ k:Nat,k≤r.wn∧i=.int .i64 k∧W=wr∧Hid (∀ j,j<k→¬r.ws j=a)) (fun i _=>r.wn-(intOf i).toNat)
 case atStart=>exact ⟨0,zle _,rfl,rfl,fun j hj=>absurd hj (nlz _)⟩
 case round=>
  obtain ⟨k,hk,rfl,hwr,HN⟩:=hrel
  subst hwr
  by_cases hkn:k<r.wn
  ·obtain ⟨b,off,hA,hlo,hbh,hcx⟩:=(HS.out.below hB0 (lrf _)) k hkn
   rw [hA] at p10
   have HA:=hid hA
   clear hA
   by_cases he:r.ws k=a
   ·have HW:=hid (show YE r a=false by rw [HO.out,Jq hkn he];simp)
    have hbq:((r.ws k).toList==a.toList)=true:=by rw [beq_dec];simp [he]
    clear he
    go_wp2_with (first|((with_reducible show wpList _ _ _ (⟨some 46,Op.load 38 _,_,_,_,_⟩::_) _ _);(clear p0 p1 p2 p3 p4 p5 p6 p7 p8 p9 p10 p11 p12 p13 p14 p15 p16 p17);refine LD38 (rcC r (pD pp gd).A).toList HQ.out.cell ?_)|((with_reducible show wpList _ _ _ (⟨none,Op.store 38 _ _,_,_,_,_⟩::_) _ _);refine Zd rfl 38 _ _ rfl (w.1.size+1) (rcC r (pD pp gd).A).toList rfl rfl Z0.out rfl Tryz.sz38 (by simp [Value.oneCell']) ?_;intro V hr hfr hsv;have HBV:=hid hr;have HFV:=hid hfr;clear hr hfr hsv))
    exact apTb4
   ·have hbq:=Js he
    have hbq2:=Js (fun h=>he (Eq.symm h))
    have HP:=hid he
    clear he
    go_wp2
    go_roundw
    case rel=>exact ⟨k+1,by omega,by go_num,by first|trivial|rfl,(fun j hj=>by
     rcases Nat.lt_or_ge j k with h|h
     ·exact HN.out j h
     ·obtain rfl:j=k:=by omega
      exact HP.out:∀ j,j<k+1→¬r.ws j=a)⟩
    case measure=>simp [intOf];omega
  ·have HW:=hid (show YE r a=true by rw [HO.out,Kd (fun i hi=>HN.out i (by omega)),J6 ⟨by omega,by omega⟩];simp [s3])
   have hbA:Below w.1.size w (W.alloc (.cells #[.string a] 9)):=hB0.alloc hB0.size _
   have HO3:=hid (HAT.out.grow hbA).o3
   have HLT:=hid HAT.out.lt
   go_wp2_with (first|((with_reducible show wpList _ _ _ (⟨some 51,_,_,_,_,_⟩::_) _ _);obtain ⟨ad2,cap2,g2,w2,hrun,hs2,hl2,hf2,hg2⟩:=append_one (W.alloc (.cells #[.string a] 9)) pp.A.wa r.wn pp.A.wc pp.g3 r.ws a W.1.size HO3.out l1 HWS.out.zero (fun h0=>ltl (HLT.out _ ⟨3,by omega,h0,rfl⟩) hbA.size) (fun h0=>⟨(HWS.out.at_ h0).1,(HWS.out.at_ h0).2.below hbA (HLT.out _ ⟨3,by omega,h0,rfl⟩)⟩) (Zt W #[.string a] 9 0);refine Zq rfl _ _ 26 26 rfl _ _ _ _ rfl rfl hrun ?_;have g3lt:r.wn≠0→pp.g3<w.1.size:=(fun h0=>HLT.out _ ⟨3,by omega,h0,rfl⟩);have zA:(W.alloc (.cells #[.string a] 9)).1.size=W.1.size+1:=World.size_alloc _ _;have Q2:=(HQ.out.below (Zb W (.cells #[.string a] 9)) HQ.out.lt).frP hf2 (fun e=>by have:=g3lt e.1;omega);have z0:=Z0.out.lt;have Z2:=hid ((Z0.out.below (Zb W (.cells #[.string a] 9)) Z0.out.lt).frP hf2 (fun e=>by have:=g3lt e.1;omega));have HS2:=hid hs2;have HL2:=hid hl2;have HF2:=hid hf2;have HG2:=hid hg2;have HQ2:=hid Q2;(clear p0 p1 p2 p3 p4 p5 p6 p7 p8 p9 p10 p11 p12 p13 p14 p15 p16 p17 qf qlt hrun hs2 hl2 hf2 hg2);obtain ⟨p0,p1,p2,p3,p4,p5,p6,p7,p8,p9,p10,p11,p12,p13,p14,p15,p16,p17⟩:=Ze Q2.cell;have qf:=Q2.free;have qlt:w.1.size<w2.1.size:=Q2.lt;clear Q2)|((with_reducible show wpList _ _ _ (⟨some 53,Op.load 38 _,_,_,_,_⟩::_) _ _);have HQ3:=hid (HQ2.out.to (Um HQ2.out.cell (.slice ad2 (r.wn+1) cap2)));(clear p0 p1 p2 p3 p4 p5 p6 p7 p8 p9 p10 p11 p12 p13 p14 p15 p16 p17 qf qlt);refine LD38 (#[.int .i64 r.num,.int .i64 r.of,.bool r.up,.int .i64 r.sf.pr,.int .i64 r.sf.kn,.slice pp.A.sa r.sf.n pp.A.sc,.int .i64 r.dk.pr,.int .i64 r.dk.kn,.slice (some ⟨gd,0,none⟩) r.dk.n pp.A.dc,.slice pp.A.ha r.hn pp.A.hc,.slice ad2 (r.wn+1) cap2,.bool r.ld,.bool r.tr,.int .i64 r.bal,.slice pp.A.ya r.yn pp.A.yc,.slice pp.A.ba r.bn pp.A.bc,.slice pp.A.aa r.an pp.A.ac,.int .i64 r.hd]:Array Value).toList HQ3.out.cell ?_;have Z3:=hid (Z2.out.frP (P:=fun q=>q=w.1.size) ((FrP.refl (fun q=>q=w.1.size) w2).setCell (p:=⟨w.1.size,10,none⟩) rfl (.slice ad2 (r.wn+1) cap2)) (by omega)))|((with_reducible show wpList _ _ _ (⟨none,Op.store 38 _ _,_,_,_,_⟩::_) _ _);refine Zd rfl 38 _ _ rfl (w.1.size+1) (#[.int .i64 r.num,.int .i64 r.of,.bool r.up,.int .i64 r.sf.pr,.int .i64 r.sf.kn,.slice pp.A.sa r.sf.n pp.A.sc,.int .i64 r.dk.pr,.int .i64 r.dk.kn,.slice (some ⟨gd,0,none⟩) r.dk.n pp.A.dc,.slice pp.A.ha r.hn pp.A.hc,.slice ad2 (r.wn+1) cap2,.bool r.ld,.bool r.tr,.int .i64 r.bal,.slice pp.A.ya r.yn pp.A.yc,.slice pp.A.ba r.bn pp.A.bc,.slice pp.A.aa r.an pp.A.ac,.int .i64 r.hd]:Array Value).toList rfl rfl Z3.out rfl Tryz.sz38 (by simp [Value.oneCell']) ?_;intro V hr hfr hsv;have HBV:=hid hr;have HFV:=hid hfr;clear hr hfr hsv))
   have g3lt:=fun h0:r.wn≠0=>HLT.out pp.g3 ⟨3,by omega,h0,rfl⟩
   have zA:(W.alloc (.cells #[.string a] 9)).1.size=W.1.size+1:=World.size_alloc _ _
   have z0:=Z0.out.lt
   have zf:=HF2.out.size
   have fvv:FrP (fun q=>q=w.1.size∨q=w.1.size+1) w2 V:=((FrP.refl (fun q=>q=w.1.size∨q=w.1.size+1) w2).setCell (p:=⟨w.1.size,10,none⟩) (Or.inl rfl) (.slice ad2 (r.wn+1) cap2)).trans (FrP.of_fr HFV.out (fun k h1 h2=>Or.inr (by omega)))
   have FF:FrP (rb (pD pp gd) r 3) w V:=FrP.low ((FrP.of_below hbA).trans ((HF2.out.mono (fun q hq=>Or.inl hq)).trans (fvv.mono (fun q hq=>Or.inr (by omega)))))
   refine bodyPost_ret (v:=.agg #[.int .i64 r.num,.int .i64 r.of,.bool r.up,.int .i64 r.sf.pr,.int .i64 r.sf.kn,.slice pp.A.sa r.sf.n pp.A.sc,.int .i64 r.dk.pr,.int .i64 r.dk.kn,.slice (some ⟨gd,0,none⟩) r.dk.n pp.A.dc,.slice pp.A.ha r.hn pp.A.hc,.slice ad2 (r.wn+1) cap2,.bool r.ld,.bool r.tr,.int .i64 r.bal,.slice pp.A.ya r.yn pp.A.yc,.slice pp.A.ba r.bn pp.A.bc,.slice pp.A.aa r.an pp.A.ac,.int .i64 r.hd]) (Zv rfl _ _ (w.1.size+1) (#[.int .i64 r.num,.int .i64 r.of,.bool r.up,.int .i64 r.sf.pr,.int .i64 r.sf.kn,.slice pp.A.sa r.sf.n pp.A.sc,.int .i64 r.dk.pr,.int .i64 r.dk.kn,.slice (some ⟨gd,0,none⟩) r.dk.n pp.A.dc,.slice pp.A.ha r.hn pp.A.hc,.slice ad2 (r.wn+1) cap2,.bool r.ld,.bool r.tr,.int .i64 r.bal,.slice pp.A.ya r.yn pp.A.yc,.slice pp.A.ba r.bn pp.A.bc,.slice pp.A.aa r.an pp.A.ac,.int .i64 r.hd]:Array Value).toList _ rfl (Holds.range (cs:=(#[.int .i64 r.num,.int .i64 r.of,.bool r.up,.int .i64 r.sf.pr,.int .i64 r.sf.kn,.slice pp.A.sa r.sf.n pp.A.sc,.int .i64 r.dk.pr,.int .i64 r.dk.kn,.slice (some ⟨gd,0,none⟩) r.dk.n pp.A.dc,.slice pp.A.ha r.hn pp.A.hc,.slice ad2 (r.wn+1) cap2,.bool r.ld,.bool r.tr,.int .i64 r.bal,.slice pp.A.ya r.yn pp.A.yc,.slice pp.A.ba r.bn pp.A.bc,.slice pp.A.aa r.an pp.A.ac,.int .i64 r.hd]:Array Value).toList) HBV.out.cell) Tryz.underlying38 rfl Tryz.sz38) rfl ?_
   have e9:Yg r a=UE r a:=by simp [Yg,HW.out]
   unfold SX
   rw [e9]
   have HS3:=HS2.out.frP fvv (fun h0=>⟨by
    rcases HG2.out with h|h
    ·have:=g3lt h.1;omega
    ·omega,HL2.out⟩)
   have HL3:=ltl HL2.out fvv.size
   refine ⟨{ (pD pp gd).A with wa:=ad2,wc:=cap2 },rfl,fun Y hy=>?_,FF⟩
   have FY:FrP (fun q=>rb (pD pp gd) r 3 q∨(¬rbs (pD pp gd) r q∧q<w.1.size)) w Y:=(FF.mono (fun q hq=>Or.inl hq)).trans (hy.mono (fun q hq=>Or.inr hq))
   refine HAT.out.wishInP FY (fun j k hj h3 hk e=>?_) a (ltl HL3 hy.size) (HS3.frP hy (fun h0=>⟨fun e=>?_,HL3⟩))
   ·rcases e with e|e
    ·exact h3 (HAT.out.ap j 3 k hj (by omega) hk e)
    ·exact e.1 ⟨j,hj,hk⟩
   ·rcases HG2.out with h|h
    ·exact e.1 ⟨3,by omega,h.1,h.2⟩
    ·have:=e.2;have h8:W.1.size+1≤g2:=zA▸h;have:=hB0.size;omega
theorem sWishX_any (r:Rc) (p:RcP) (a:ByteArray) (w:World) (hm:ZW r) (hat:RcAt w r p) (hws:WsOk w r p) (hk0:0≤r.dk.kn) (hk1:r.dk.kn≤r.dk.n) (hbal:∀ i,i<r.dk.kn.toNat→0<(r.dk.s i).bal) (ha:(a.size:Int)≤140737488355328) :
  Calls Tryz.prog 71 #[rcV r p.A,.string a] w (SX r p a w):=by
 obtain ⟨gd,hgd⟩:=hws.da
 have e:=pD_eq p gd hgd
 have h:=sWishXD r p gd a w hm (by rw [e];exact hat) (by rw [e];exact hws) hk0 hk1 hbal ha
 rw [e] at h
 exact h
set_option maxRecDepth 100000 in
theorem take_sp_8 (r:Rc) (p:RcP) (m:Ms) (ma:Option Addr) (mc:Nat) (w:World) (hg:RcG w r p) (hk:m.kind=8) (hsm:ZW r) (hws:WsOk w r p) (hkn:0≤r.dk.kn∧r.dk.kn≤r.dk.n) (hbal:∀ i,i<r.dk.kn.toNat→0<(r.dk.s i).bal) (htx:(m.text.size:Int)≤140737488355328) :
  Calls Tryz.prog 67 #[rcV r p.A,msV m ma mc] w fun e w'=>∃ A',e=.returned (rcV (Yg r m.text) A')∧RcIn w' 0 w'.1.size (Yg r m.text) A'∧FrP (rbs p r) w w':=by
 have HK:=hid hk
 have hB0:Below w.1.size w (((w.alloc (.cells (rcC r p.A) 38)).alloc (.cells #[.int .i64 m.kind,.int .i64 m.from_,.int .i64 m.to,.int .i64 m.bal,.int .i64 m.ix,.int .i64 m.kn,.string m.text,.slice ma m.n mc] 52)).alloc (.cells (rcL 0 0 false).toArray 38)):=((Zb _ _).alloc (by simp) _).alloc (by simp;omega) _
 have hN:=Bx.new3 w (rcC r p.A) #[.int .i64 m.kind,.int .i64 m.from_,.int .i64 m.to,.int .i64 m.bal,.int .i64 m.ix,.int .i64 m.kn,.string m.text,.slice ma m.n mc] (rcL 0 0 false).toArray 38 52 38
 have Q0:=hid hN.1
 have M0:=hid hN.2.1
 have Z0:=hid hN.2.2
 have SF0:=hid (SpF.new (L:=w.1.size+3) hg hB0 (by omega) (by simp))
 have HB0:=hid hB0
 clear hg hN hB0 hk
 have mark:Nat:=0
 have HWS:=hid hws
 have HBL:=hid hbal
 clear hws hbal
 go_enter Tryz.func67,Tryz.ntmps67
 go_wp2_with (first|((with_reducible show wpList _ _ _ (⟨some 6,_,_,_,_,_⟩::_) _ _);clear mark;go_must ((generalize (((w.alloc (.cells (rcC r p.A) 38)).alloc (.cells #[.int .i64 m.kind,.int .i64 m.from_,.int .i64 m.to,.int .i64 m.bal,.int .i64 m.ix,.int .i64 m.kn,.string m.text,.slice ma m.n mc] 52)).alloc (.cells (rcL 0 0 false).toArray 38))=W at *);obtain ⟨q0,q1,q2,q3,q4,q5,q6,q7,q8,q9,q10,q11,q12,q13,q14,q15,q16,q17⟩:=Ze Q0.out.cell;have qf:=Q0.out.free;have qlt:=Q0.out.lt;have zlt:=Z0.out.lt;obtain ⟨m0,m1,m2,m3,m4,m5,m6,m7⟩:=Zy M0.out.cell;rw [HK.out] at m0;have mlt:=M0.out.lt;clear q0 q1 q2 q3 q4 q5 q6 q7 q8 q9 q10 q11 q12 q13 q14 q15 q16 q17 m1 m2 m3 m4 m5 m7))|((with_reducible show wpList _ _ _ (⟨some 236,Op.load 38 _,_,_,_,_⟩::_) _ _);go_must (refine LD38 (rcC r p.A).toList Q0.out.cell ?_))|(go_at_call 71;go_must (refine (sWishX_any r p m.text W hsm SF0.out.g.at_ (HWS.out.grow HB0.out SF0.out.lo) hkn.1 hkn.2 HBL.out htx).mono ?_;rintro e wc ⟨A',rfl,hin,hf⟩;have IC:=hid hin;have hZn:=SF0.out.ne (b:=(w.1.size+1+1)) (by omega) (by omega);have hZl:=Z0.out.lt;have FC:=hid (SF0.out.fr.trans2 (hf.mono (fun q hq=>(⟨3,by omega,hq⟩:rbs p r q))) (fun q _ hq=>Or.inl hq));have ZC:=hid (Z0.out.frP hf (fun e=>SF0.out.ne (b:=(w.1.size+1+1)) (by omega) (by omega) ⟨3,by omega,e⟩));clear hin hf m0 m6 qf qlt mlt zlt))|((with_reducible show wpList _ _ _ (⟨none,Op.store 38 _ _,_,_,_,_⟩::_) _ _);go_must (refine Zd rfl 38 _ _ rfl (w.1.size+1+1) (rcC (Yg r m.text) A').toList rfl rfl ZC.out rfl Tryz.sz38 (by simp [Value.oneCell']) ?_;intro Vz hr hfr hsv;have HBVz:=hid hr;have HFVz:=hid (FrP.of_fr (P:=fun q=>q=(w.1.size+1+1)) hfr (fun k h1 h2=>by omega));clear hr hfr hsv)))
 refine RZ (rcC (Yg r m.text) A').toList HBVz.out.cell ?_
 exact ⟨A',rfl,IC.out Vz (HFVz.out.mono (fun q hq=>by rw [hq];exact ⟨hZn,hZl⟩)),(FC.out.trans2 HFVz.out (fun q hq e=>Or.inr (by omega))).low⟩
set_option maxRecDepth 100000 in
theorem take_sp_9 (r:Rc) (p:RcP) (m:Ms) (ma:Option Addr) (mc:Nat) (w:World) (hg:RcG w r p) (hk:m.kind=9)  :
  Calls Tryz.prog 67 #[rcV r p.A,msV m ma mc] w (SpR w r p (rfdR r m)):=by
 have HK:=hid hk
 have hB0:Below w.1.size w (((w.alloc (.cells (rcC r p.A) 38)).alloc (.cells #[.int .i64 m.kind,.int .i64 m.from_,.int .i64 m.to,.int .i64 m.bal,.int .i64 m.ix,.int .i64 m.kn,.string m.text,.slice ma m.n mc] 52)).alloc (.cells (rcL 0 0 false).toArray 38)):=((Zb _ _).alloc (by simp) _).alloc (by simp;omega) _
 have hN:=Bx.new3 w (rcC r p.A) #[.int .i64 m.kind,.int .i64 m.from_,.int .i64 m.to,.int .i64 m.bal,.int .i64 m.ix,.int .i64 m.kn,.string m.text,.slice ma m.n mc] (rcL 0 0 false).toArray 38 52 38
 have Q0:=hid hN.1
 have M0:=hid hN.2.1
 have Z0:=hid hN.2.2
 have SF0:=hid (SpF.new (L:=w.1.size+3) hg hB0 (by omega) (by simp))
 have HB0:=hid hB0
 clear hg hN hB0 hk
 have mark:Nat:=0
 by_cases h2:r.bal<m.bal
 ·by_cases h1:(r.ld||r.tr)=true
  ·by_cases h3:r.dk.pr<m.bal
   ·skip
    have HT:=hid (show rfdR r m=(prR (ZD r) m.bal) from (if_pos ⟨h1,h2⟩).trans (by rw [show mxI r.dk.pr m.bal=m.bal from if_pos h3]))
    have h2z:decide (r.bal<m.bal)=true:=decide_eq_true h2
    have h3z:decide (r.dk.pr<m.bal)=true:=decide_eq_true h3
    have mark2:Nat:=0
    clear h2 h3
    by_cases hl:r.ld=true
    ·have HLZ:=hid hl
     clear h1 hl
     go_enter Tryz.func67,Tryz.ntmps67
     go_wp2_with (first|((with_reducible show wpList _ _ _ (⟨some 6,_,_,_,_,_⟩::_) _ _);clear mark;go_must ((generalize (((w.alloc (.cells (rcC r p.A) 38)).alloc (.cells #[.int .i64 m.kind,.int .i64 m.from_,.int .i64 m.to,.int .i64 m.bal,.int .i64 m.ix,.int .i64 m.kn,.string m.text,.slice ma m.n mc] 52)).alloc (.cells (rcL 0 0 false).toArray 38))=W at *);obtain ⟨q0,q1,q2,q3,q4,q5,q6,q7,q8,q9,q10,q11,q12,q13,q14,q15,q16,q17⟩:=Ze Q0.out.cell;have qf:=Q0.out.free;have qlt:=Q0.out.lt;have zlt:=Z0.out.lt;obtain ⟨m0,m1,m2,m3,m4,m5,m6,m7⟩:=Zy M0.out.cell;rw [HK.out] at m0;have mlt:=M0.out.lt;rw [HLZ.out] at q11;clear q0 q1 q2 q3 q4 q5 q6 q7 q8 q9 q10 q14 q15 q16 q17 m1 m2 m4 m5 m6 m7))|((with_reducible show wpList _ _ _ (⟨some 255,Op.load 38 _,_,_,_,_⟩::_) _ _);go_must (refine LD38 (rcC r p.A).toList Q0.out.cell ?_))|(go_at_call 38;go_must (refine (KX r p W SF0.out.g).mono ?_;rintro e wc0 ⟨p1,rfl,g1,f1,s1⟩;have SC0:=hid (SF0.out.next g1 f1 s1);have QC0:=hid (SF0.out.keep f1 Q0.out (lrf _) (by omega));have MC0:=hid (SF0.out.keep f1 M0.out (by omega) (by omega));have ZC0:=hid (SF0.out.keep f1 Z0.out (by omega) (by omega));clear g1 f1 s1 q11 q12 q13 m0 m3 qf qlt zlt mlt))|((with_reducible show wpList _ _ _ (⟨none,Op.store 38 (Operand.tmp 2) (Operand.tmp 256),_,_,_,_⟩::_) _ _);go_must (refine Zd rfl 38 _ _ rfl w.1.size (rcC (ZD r) p1.A).toList rfl rfl QC0.out rfl Tryz.sz38 (by simp [Value.oneCell']) ?_;intro Va hr hfr hsv;have HBVa:=hid hr;have HFVa:=hid (FrP.of_fr (P:=fun q=>q=w.1.size) hfr (fun k h1 h2=>by omega));clear hr hfr hsv;have SF1:=hid (SC0.out.box HFVa.out (lrf _) (by omega));have Q1:=HBVa;have M1:=hid (MC0.out.frP HFVa.out (by omega));have Z1:=hid (ZC0.out.frP HFVa.out (by omega));clear HFVa;obtain ⟨q0,q1,q2,q3,q4,q5,q6,q7,q8,q9,q10,q11,q12,q13,q14,q15,q16,q17⟩:=Ze Q1.out.cell;have qf:=Q1.out.free;have qlt:=Q1.out.lt;have zlt:=Z1.out.lt;obtain ⟨m0,m1,m2,m3,m4,m5,m6,m7⟩:=Zy M1.out.cell;have mlt:=M1.out.lt;clear q0 q1 q2 q3 q4 q5 q7 q8 q9 q10 q11 q12 q13 q14 q15 q16 q17 m0 m1 m2 m4 m5 m6 m7))|((with_reducible show wpList _ _ _ (⟨some 267,_,_,_,_,_⟩::_) _ _);clear mark2;go_must (have Q2:Hid (Bx (Va.setCell ⟨w.1.size,6,none⟩ (.int .i64 m.bal)) w.1.size (rcC (prR (ZD r) m.bal) p1.A)):=hid (Q1.out.to (YT Q1.out.cell (.int .i64 m.bal)));have fk:=(FrP.refl (fun q=>q=w.1.size) Va).setCell (p:=⟨w.1.size,6,none⟩) rfl (.int .i64 m.bal);have S2:=hid (SF1.out.box fk (lrf _) (by omega));have SF2:=hid (S2.out.re (r1:=(prR (ZD r) m.bal)) (p1:=p1) ⟨⟨S2.out.g.at_.o0,S2.out.g.at_.o1,S2.out.g.at_.o2,S2.out.g.at_.o3,S2.out.g.at_.o4,S2.out.g.at_.o5,S2.out.g.at_.o6,S2.out.g.at_.lt,S2.out.g.at_.ap⟩,⟨S2.out.g.rm.dl,S2.out.g.rm.d0,S2.out.g.rm.dr,S2.out.g.rm.hl,S2.out.g.rm.h0,S2.out.g.rm.hr⟩⟩ (fun q hq=>hq));have Z2:=hid (Z1.out.frP fk (by omega));clear fk S2;(generalize Va.setCell ⟨w.1.size,6,none⟩ (.int .i64 m.bal)=Vb at *);clear q6 m3 qf qlt mlt zlt))|((with_reducible show wpList _ _ _ (⟨some 267,Op.load 38 _,_,_,_,_⟩::_) _ _);go_must (refine LD38 (rcC (prR (ZD r) m.bal) p1.A).toList Q2.out.cell ?_))|((with_reducible show wpList _ _ _ (⟨none,Op.store 38 (Operand.tmp 4) _,_,_,_,_⟩::_) _ _);go_must (refine Zd rfl 38 _ _ rfl (w.1.size+1+1) (rcC (prR (ZD r) m.bal) p1.A).toList rfl rfl Z2.out rfl Tryz.sz38 (by simp [Value.oneCell']) ?_;intro Vz hr hfr hsv;have HBVz:=hid hr;have HFVz:=hid (FrP.of_fr (P:=fun q=>q=(w.1.size+1+1)) hfr (fun k h1 h2=>by omega));clear hr hfr hsv)))
     refine RZ (rcC (prR (ZD r) m.bal) p1.A).toList HBVz.out.cell ?_
     rw [HT.out]
     exact (SF2.out.box HFVz.out (by omega) (by omega)).done
    ·have HTZ:=hid (show r.tr=true by cases h:r.ld;(rw [h] at h1;simpa using h1);exact absurd h hl)
     have HLZ:=hid (show r.ld=false by simpa using hl)
     clear h1 hl
     go_enter Tryz.func67,Tryz.ntmps67
     go_wp2_with (first|((with_reducible show wpList _ _ _ (⟨some 6,_,_,_,_,_⟩::_) _ _);clear mark;go_must ((generalize (((w.alloc (.cells (rcC r p.A) 38)).alloc (.cells #[.int .i64 m.kind,.int .i64 m.from_,.int .i64 m.to,.int .i64 m.bal,.int .i64 m.ix,.int .i64 m.kn,.string m.text,.slice ma m.n mc] 52)).alloc (.cells (rcL 0 0 false).toArray 38))=W at *);obtain ⟨q0,q1,q2,q3,q4,q5,q6,q7,q8,q9,q10,q11,q12,q13,q14,q15,q16,q17⟩:=Ze Q0.out.cell;have qf:=Q0.out.free;have qlt:=Q0.out.lt;have zlt:=Z0.out.lt;obtain ⟨m0,m1,m2,m3,m4,m5,m6,m7⟩:=Zy M0.out.cell;rw [HK.out] at m0;have mlt:=M0.out.lt;rw [HLZ.out] at q11;rw [HTZ.out] at q12;clear q0 q1 q2 q3 q4 q5 q6 q7 q8 q9 q10 q14 q15 q16 q17 m1 m2 m4 m5 m6 m7))|((with_reducible show wpList _ _ _ (⟨some 255,Op.load 38 _,_,_,_,_⟩::_) _ _);go_must (refine LD38 (rcC r p.A).toList Q0.out.cell ?_))|(go_at_call 38;go_must (refine (KX r p W SF0.out.g).mono ?_;rintro e wc0 ⟨p1,rfl,g1,f1,s1⟩;have SC0:=hid (SF0.out.next g1 f1 s1);have QC0:=hid (SF0.out.keep f1 Q0.out (lrf _) (by omega));have MC0:=hid (SF0.out.keep f1 M0.out (by omega) (by omega));have ZC0:=hid (SF0.out.keep f1 Z0.out (by omega) (by omega));clear g1 f1 s1 q11 q12 q13 m0 m3 qf qlt zlt mlt))|((with_reducible show wpList _ _ _ (⟨none,Op.store 38 (Operand.tmp 2) (Operand.tmp 256),_,_,_,_⟩::_) _ _);go_must (refine Zd rfl 38 _ _ rfl w.1.size (rcC (ZD r) p1.A).toList rfl rfl QC0.out rfl Tryz.sz38 (by simp [Value.oneCell']) ?_;intro Va hr hfr hsv;have HBVa:=hid hr;have HFVa:=hid (FrP.of_fr (P:=fun q=>q=w.1.size) hfr (fun k h1 h2=>by omega));clear hr hfr hsv;have SF1:=hid (SC0.out.box HFVa.out (lrf _) (by omega));have Q1:=HBVa;have M1:=hid (MC0.out.frP HFVa.out (by omega));have Z1:=hid (ZC0.out.frP HFVa.out (by omega));clear HFVa;obtain ⟨q0,q1,q2,q3,q4,q5,q6,q7,q8,q9,q10,q11,q12,q13,q14,q15,q16,q17⟩:=Ze Q1.out.cell;have qf:=Q1.out.free;have qlt:=Q1.out.lt;have zlt:=Z1.out.lt;obtain ⟨m0,m1,m2,m3,m4,m5,m6,m7⟩:=Zy M1.out.cell;have mlt:=M1.out.lt;clear q0 q1 q2 q3 q4 q5 q7 q8 q9 q10 q11 q12 q13 q14 q15 q16 q17 m0 m1 m2 m4 m5 m6 m7))|((with_reducible show wpList _ _ _ (⟨some 267,_,_,_,_,_⟩::_) _ _);clear mark2;go_must (have Q2:Hid (Bx (Va.setCell ⟨w.1.size,6,none⟩ (.int .i64 m.bal)) w.1.size (rcC (prR (ZD r) m.bal) p1.A)):=hid (Q1.out.to (YT Q1.out.cell (.int .i64 m.bal)));have fk:=(FrP.refl (fun q=>q=w.1.size) Va).setCell (p:=⟨w.1.size,6,none⟩) rfl (.int .i64 m.bal);have S2:=hid (SF1.out.box fk (lrf _) (by omega));have SF2:=hid (S2.out.re (r1:=(prR (ZD r) m.bal)) (p1:=p1) ⟨⟨S2.out.g.at_.o0,S2.out.g.at_.o1,S2.out.g.at_.o2,S2.out.g.at_.o3,S2.out.g.at_.o4,S2.out.g.at_.o5,S2.out.g.at_.o6,S2.out.g.at_.lt,S2.out.g.at_.ap⟩,⟨S2.out.g.rm.dl,S2.out.g.rm.d0,S2.out.g.rm.dr,S2.out.g.rm.hl,S2.out.g.rm.h0,S2.out.g.rm.hr⟩⟩ (fun q hq=>hq));have Z2:=hid (Z1.out.frP fk (by omega));clear fk S2;(generalize Va.setCell ⟨w.1.size,6,none⟩ (.int .i64 m.bal)=Vb at *);clear q6 m3 qf qlt mlt zlt))|((with_reducible show wpList _ _ _ (⟨some 267,Op.load 38 _,_,_,_,_⟩::_) _ _);go_must (refine LD38 (rcC (prR (ZD r) m.bal) p1.A).toList Q2.out.cell ?_))|((with_reducible show wpList _ _ _ (⟨none,Op.store 38 (Operand.tmp 4) _,_,_,_,_⟩::_) _ _);go_must (refine Zd rfl 38 _ _ rfl (w.1.size+1+1) (rcC (prR (ZD r) m.bal) p1.A).toList rfl rfl Z2.out rfl Tryz.sz38 (by simp [Value.oneCell']) ?_;intro Vz hr hfr hsv;have HBVz:=hid hr;have HFVz:=hid (FrP.of_fr (P:=fun q=>q=(w.1.size+1+1)) hfr (fun k h1 h2=>by omega));clear hr hfr hsv)))
     refine RZ (rcC (prR (ZD r) m.bal) p1.A).toList HBVz.out.cell ?_
     rw [HT.out]
     exact (SF2.out.box HFVz.out (by omega) (by omega)).done
   ·skip
    have HT:=hid (show rfdR r m=(ZD r) from (if_pos ⟨h1,h2⟩).trans (by rw [show mxI r.dk.pr m.bal=r.dk.pr from if_neg h3]))
    have h2z:decide (r.bal<m.bal)=true:=decide_eq_true h2
    have h3z:decide (r.dk.pr<m.bal)=false:=decide_eq_false h3
    have mark2:Nat:=0
    clear h2 h3
    by_cases hl:r.ld=true
    ·have HLZ:=hid hl
     clear h1 hl
     go_enter Tryz.func67,Tryz.ntmps67
     go_wp2_with (first|((with_reducible show wpList _ _ _ (⟨some 6,_,_,_,_,_⟩::_) _ _);clear mark;go_must ((generalize (((w.alloc (.cells (rcC r p.A) 38)).alloc (.cells #[.int .i64 m.kind,.int .i64 m.from_,.int .i64 m.to,.int .i64 m.bal,.int .i64 m.ix,.int .i64 m.kn,.string m.text,.slice ma m.n mc] 52)).alloc (.cells (rcL 0 0 false).toArray 38))=W at *);obtain ⟨q0,q1,q2,q3,q4,q5,q6,q7,q8,q9,q10,q11,q12,q13,q14,q15,q16,q17⟩:=Ze Q0.out.cell;have qf:=Q0.out.free;have qlt:=Q0.out.lt;have zlt:=Z0.out.lt;obtain ⟨m0,m1,m2,m3,m4,m5,m6,m7⟩:=Zy M0.out.cell;rw [HK.out] at m0;have mlt:=M0.out.lt;rw [HLZ.out] at q11;clear q0 q1 q2 q3 q4 q5 q6 q7 q8 q9 q10 q14 q15 q16 q17 m1 m2 m4 m5 m6 m7))|((with_reducible show wpList _ _ _ (⟨some 255,Op.load 38 _,_,_,_,_⟩::_) _ _);go_must (refine LD38 (rcC r p.A).toList Q0.out.cell ?_))|(go_at_call 38;go_must (refine (KX r p W SF0.out.g).mono ?_;rintro e wc0 ⟨p1,rfl,g1,f1,s1⟩;have SC0:=hid (SF0.out.next g1 f1 s1);have QC0:=hid (SF0.out.keep f1 Q0.out (lrf _) (by omega));have MC0:=hid (SF0.out.keep f1 M0.out (by omega) (by omega));have ZC0:=hid (SF0.out.keep f1 Z0.out (by omega) (by omega));clear g1 f1 s1 q11 q12 q13 m0 m3 qf qlt zlt mlt))|((with_reducible show wpList _ _ _ (⟨none,Op.store 38 (Operand.tmp 2) (Operand.tmp 256),_,_,_,_⟩::_) _ _);go_must (refine Zd rfl 38 _ _ rfl w.1.size (rcC (ZD r) p1.A).toList rfl rfl QC0.out rfl Tryz.sz38 (by simp [Value.oneCell']) ?_;intro Va hr hfr hsv;have HBVa:=hid hr;have HFVa:=hid (FrP.of_fr (P:=fun q=>q=w.1.size) hfr (fun k h1 h2=>by omega));clear hr hfr hsv;have SF1:=hid (SC0.out.box HFVa.out (lrf _) (by omega));have Q1:=HBVa;have M1:=hid (MC0.out.frP HFVa.out (by omega));have Z1:=hid (ZC0.out.frP HFVa.out (by omega));clear HFVa;obtain ⟨q0,q1,q2,q3,q4,q5,q6,q7,q8,q9,q10,q11,q12,q13,q14,q15,q16,q17⟩:=Ze Q1.out.cell;have qf:=Q1.out.free;have qlt:=Q1.out.lt;have zlt:=Z1.out.lt;obtain ⟨m0,m1,m2,m3,m4,m5,m6,m7⟩:=Zy M1.out.cell;have mlt:=M1.out.lt;clear q0 q1 q2 q3 q4 q5 q7 q8 q9 q10 q11 q12 q13 q14 q15 q16 q17 m0 m1 m2 m4 m5 m6 m7))|((with_reducible show wpList _ _ _ (⟨some 267,Op.load 38 _,_,_,_,_⟩::_) _ _);go_must (refine LD38 (rcC (ZD r) p1.A).toList Q1.out.cell ?_))|((with_reducible show wpList _ _ _ (⟨none,Op.store 38 (Operand.tmp 4) _,_,_,_,_⟩::_) _ _);go_must (refine Zd rfl 38 _ _ rfl (w.1.size+1+1) (rcC (ZD r) p1.A).toList rfl rfl Z1.out rfl Tryz.sz38 (by simp [Value.oneCell']) ?_;intro Vz hr hfr hsv;have HBVz:=hid hr;have HFVz:=hid (FrP.of_fr (P:=fun q=>q=(w.1.size+1+1)) hfr (fun k h1 h2=>by omega));clear hr hfr hsv)))
     refine RZ (rcC (ZD r) p1.A).toList HBVz.out.cell ?_
     rw [HT.out]
     exact (SF1.out.box HFVz.out (by omega) (by omega)).done
    ·have HTZ:=hid (show r.tr=true by cases h:r.ld;(rw [h] at h1;simpa using h1);exact absurd h hl)
     have HLZ:=hid (show r.ld=false by simpa using hl)
     clear h1 hl
     go_enter Tryz.func67,Tryz.ntmps67
     go_wp2_with (first|((with_reducible show wpList _ _ _ (⟨some 6,_,_,_,_,_⟩::_) _ _);clear mark;go_must ((generalize (((w.alloc (.cells (rcC r p.A) 38)).alloc (.cells #[.int .i64 m.kind,.int .i64 m.from_,.int .i64 m.to,.int .i64 m.bal,.int .i64 m.ix,.int .i64 m.kn,.string m.text,.slice ma m.n mc] 52)).alloc (.cells (rcL 0 0 false).toArray 38))=W at *);obtain ⟨q0,q1,q2,q3,q4,q5,q6,q7,q8,q9,q10,q11,q12,q13,q14,q15,q16,q17⟩:=Ze Q0.out.cell;have qf:=Q0.out.free;have qlt:=Q0.out.lt;have zlt:=Z0.out.lt;obtain ⟨m0,m1,m2,m3,m4,m5,m6,m7⟩:=Zy M0.out.cell;rw [HK.out] at m0;have mlt:=M0.out.lt;rw [HLZ.out] at q11;rw [HTZ.out] at q12;clear q0 q1 q2 q3 q4 q5 q6 q7 q8 q9 q10 q14 q15 q16 q17 m1 m2 m4 m5 m6 m7))|((with_reducible show wpList _ _ _ (⟨some 255,Op.load 38 _,_,_,_,_⟩::_) _ _);go_must (refine LD38 (rcC r p.A).toList Q0.out.cell ?_))|(go_at_call 38;go_must (refine (KX r p W SF0.out.g).mono ?_;rintro e wc0 ⟨p1,rfl,g1,f1,s1⟩;have SC0:=hid (SF0.out.next g1 f1 s1);have QC0:=hid (SF0.out.keep f1 Q0.out (lrf _) (by omega));have MC0:=hid (SF0.out.keep f1 M0.out (by omega) (by omega));have ZC0:=hid (SF0.out.keep f1 Z0.out (by omega) (by omega));clear g1 f1 s1 q11 q12 q13 m0 m3 qf qlt zlt mlt))|((with_reducible show wpList _ _ _ (⟨none,Op.store 38 (Operand.tmp 2) (Operand.tmp 256),_,_,_,_⟩::_) _ _);go_must (refine Zd rfl 38 _ _ rfl w.1.size (rcC (ZD r) p1.A).toList rfl rfl QC0.out rfl Tryz.sz38 (by simp [Value.oneCell']) ?_;intro Va hr hfr hsv;have HBVa:=hid hr;have HFVa:=hid (FrP.of_fr (P:=fun q=>q=w.1.size) hfr (fun k h1 h2=>by omega));clear hr hfr hsv;have SF1:=hid (SC0.out.box HFVa.out (lrf _) (by omega));have Q1:=HBVa;have M1:=hid (MC0.out.frP HFVa.out (by omega));have Z1:=hid (ZC0.out.frP HFVa.out (by omega));clear HFVa;obtain ⟨q0,q1,q2,q3,q4,q5,q6,q7,q8,q9,q10,q11,q12,q13,q14,q15,q16,q17⟩:=Ze Q1.out.cell;have qf:=Q1.out.free;have qlt:=Q1.out.lt;have zlt:=Z1.out.lt;obtain ⟨m0,m1,m2,m3,m4,m5,m6,m7⟩:=Zy M1.out.cell;have mlt:=M1.out.lt;clear q0 q1 q2 q3 q4 q5 q7 q8 q9 q10 q11 q12 q13 q14 q15 q16 q17 m0 m1 m2 m4 m5 m6 m7))|((with_reducible show wpList _ _ _ (⟨some 267,Op.load 38 _,_,_,_,_⟩::_) _ _);go_must (refine LD38 (rcC (ZD r) p1.A).toList Q1.out.cell ?_))|((with_reducible show wpList _ _ _ (⟨none,Op.store 38 (Operand.tmp 4) _,_,_,_,_⟩::_) _ _);go_must (refine Zd rfl 38 _ _ rfl (w.1.size+1+1) (rcC (ZD r) p1.A).toList rfl rfl Z1.out rfl Tryz.sz38 (by simp [Value.oneCell']) ?_;intro Vz hr hfr hsv;have HBVz:=hid hr;have HFVz:=hid (FrP.of_fr (P:=fun q=>q=(w.1.size+1+1)) hfr (fun k h1 h2=>by omega));clear hr hfr hsv)))
     refine RZ (rcC (ZD r) p1.A).toList HBVz.out.cell ?_
     rw [HT.out]
     exact (SF1.out.box HFVz.out (by omega) (by omega)).done
  ·skip
   have HT:=hid (show rfdR r m=r from if_neg (fun h=>h1 h.1))
   have h2z:decide (r.bal<m.bal)=true:=decide_eq_true h2
   have HLZ:=hid (show r.ld=false by cases h:r.ld;rfl;exact absurd (by rw [h];rfl) h1)
   have HTZ:=hid (show r.tr=false by cases h:r.tr;rfl;exact absurd (by rw [h];simp) h1)
   clear h1 h2
   go_enter Tryz.func67,Tryz.ntmps67
   go_wp2_with (first|((with_reducible show wpList _ _ _ (⟨some 6,_,_,_,_,_⟩::_) _ _);clear mark;go_must ((generalize (((w.alloc (.cells (rcC r p.A) 38)).alloc (.cells #[.int .i64 m.kind,.int .i64 m.from_,.int .i64 m.to,.int .i64 m.bal,.int .i64 m.ix,.int .i64 m.kn,.string m.text,.slice ma m.n mc] 52)).alloc (.cells (rcL 0 0 false).toArray 38))=W at *);obtain ⟨q0,q1,q2,q3,q4,q5,q6,q7,q8,q9,q10,q11,q12,q13,q14,q15,q16,q17⟩:=Ze Q0.out.cell;have qf:=Q0.out.free;have qlt:=Q0.out.lt;have zlt:=Z0.out.lt;obtain ⟨m0,m1,m2,m3,m4,m5,m6,m7⟩:=Zy M0.out.cell;rw [HK.out] at m0;have mlt:=M0.out.lt;rw [HLZ.out] at q11;rw [HTZ.out] at q12;clear q0 q1 q2 q3 q4 q5 q6 q7 q8 q9 q10 q14 q15 q16 q17 m1 m2 m4 m5 m6 m7))|((with_reducible show wpList _ _ _ (⟨some 267,Op.load 38 _,_,_,_,_⟩::_) _ _);go_must (refine LD38 (rcC r p.A).toList Q0.out.cell ?_))|((with_reducible show wpList _ _ _ (⟨none,Op.store 38 (Operand.tmp 4) _,_,_,_,_⟩::_) _ _);go_must (refine Zd rfl 38 _ _ rfl (w.1.size+1+1) (rcC r p.A).toList rfl rfl Z0.out rfl Tryz.sz38 (by simp [Value.oneCell']) ?_;intro Vz hr hfr hsv;have HBVz:=hid hr;have HFVz:=hid (FrP.of_fr (P:=fun q=>q=(w.1.size+1+1)) hfr (fun k h1 h2=>by omega));clear hr hfr hsv)))
   refine RZ (rcC r p.A).toList HBVz.out.cell ?_
   rw [HT.out]
   exact (SF0.out.box HFVz.out (by omega) (by omega)).done
 ·skip
  have HT:=hid (show rfdR r m=r from if_neg (fun h=>h2 h.2))
  have h2z:decide (r.bal<m.bal)=false:=decide_eq_false h2
  clear h2
  go_enter Tryz.func67,Tryz.ntmps67
  go_wp2_with (first|((with_reducible show wpList _ _ _ (⟨some 6,_,_,_,_,_⟩::_) _ _);clear mark;go_must ((generalize (((w.alloc (.cells (rcC r p.A) 38)).alloc (.cells #[.int .i64 m.kind,.int .i64 m.from_,.int .i64 m.to,.int .i64 m.bal,.int .i64 m.ix,.int .i64 m.kn,.string m.text,.slice ma m.n mc] 52)).alloc (.cells (rcL 0 0 false).toArray 38))=W at *);obtain ⟨q0,q1,q2,q3,q4,q5,q6,q7,q8,q9,q10,q11,q12,q13,q14,q15,q16,q17⟩:=Ze Q0.out.cell;have qf:=Q0.out.free;have qlt:=Q0.out.lt;have zlt:=Z0.out.lt;obtain ⟨m0,m1,m2,m3,m4,m5,m6,m7⟩:=Zy M0.out.cell;rw [HK.out] at m0;have mlt:=M0.out.lt;clear q0 q1 q2 q3 q4 q5 q6 q7 q8 q9 q10 q14 q15 q16 q17 m1 m2 m4 m5 m6 m7))|((with_reducible show wpList _ _ _ (⟨some 267,Op.load 38 _,_,_,_,_⟩::_) _ _);go_must (refine LD38 (rcC r p.A).toList Q0.out.cell ?_))|((with_reducible show wpList _ _ _ (⟨none,Op.store 38 (Operand.tmp 4) _,_,_,_,_⟩::_) _ _);go_must (refine Zd rfl 38 _ _ rfl (w.1.size+1+1) (rcC r p.A).toList rfl rfl Z0.out rfl Tryz.sz38 (by simp [Value.oneCell']) ?_;intro Vz hr hfr hsv;have HBVz:=hid hr;have HFVz:=hid (FrP.of_fr (P:=fun q=>q=(w.1.size+1+1)) hfr (fun k h1 h2=>by omega));clear hr hfr hsv)))
  refine RZ (rcC r p.A).toList HBVz.out.cell ?_
  rw [HT.out]
  exact (SF0.out.box HFVz.out (by omega) (by omega)).done
theorem list14 {α:Type} {l:List α} (h:l.length=14):∃ a0 a1 a2 a3 a4 a5 a6 a7 a8 a9 a10 a11 a12 a13,l=[a0,a1,a2,a3,a4,a5,a6,a7,a8,a9,a10,a11,a12,a13]:=by
 match l,h with
 | [a0,a1,a2,a3,a4,a5,a6,a7,a8,a9,a10,a11,a12,a13],_=>exact ⟨a0,a1,a2,a3,a4,a5,a6,a7,a8,a9,a10,a11,a12,a13,rfl⟩
theorem list18 {α:Type} {l:List α} (h:l.length=18):∃ a0 a1 a2 a3 a4 a5 a6 a7 a8 a9 a10 a11 a12 a13 a14 a15 a16 a17,l=[a0,a1,a2,a3,a4,a5,a6,a7,a8,a9,a10,a11,a12,a13,a14,a15,a16,a17]:=by
 match l,h with
 | [a0,a1,a2,a3,a4,a5,a6,a7,a8,a9,a10,a11,a12,a13,a14,a15,a16,a17],_=>exact ⟨a0,a1,a2,a3,a4,a5,a6,a7,a8,a9,a10,a11,a12,a13,a14,a15,a16,a17,rfl⟩
set_option maxRecDepth 100000 in
theorem openInts {H:Type} {enc:TypeId × Value→H} {W:World} {fuel:Nat} {v:Value} {x:DataW H × List MemPlace} (h:DataW.trod enc Tryz.prog W 0 (fun _=>true) true fuel 27 [v]=some x) (hs:Fits 27 x.1) :
  ∃ ad n cap s,v=.slice ad n cap∧(n:Int)≤17592186044416∧IntsIn W 0 W.1.size ad n s:=by
 rcases open_slice Tryz.underlying27 h with ⟨hc,_⟩|⟨a,len,cap,m,n,D,Pl,hc,_,hl,_,hm,hx,hel⟩
 ·simp only [List.cons.injEq,and_true] at hc
  exact ⟨none,0,0,fun _=>0,hc,by omega,fun i hi=>absurd hi (nlz _)⟩
 ·simp only [List.cons.injEq,and_true] at hc
  simp only [if_true] at hm
  subst hm
  subst hx
  obtain ⟨f1,f2⟩:=JO Tryz.underlying27 hs
  simp only [List.length_map,List.length_range,Tryz.b3,reachBytes] at f1
  obtain ⟨b0,off0,spot⟩:=a
  have hspot:0<len→spot=none:=fun h0=>by
   obtain ⟨cs0,h10,_⟩:=hel 0 (by omega)
   rw [Tryz.c3] at h10
   obtain ⟨_,hcl0,hcc0⟩:=World.cells?_some h10
   have:=hcc0 0 (by omega)
   rw [List.getElem?_eq_getElem (by omega)] at this
   simpa [Addr.add] using World.cell?_spot this
  obtain ⟨s,hsk⟩:=skol (n:=len) (0:Int) (p:=fun i k=>∃ b off,(some ⟨b0,off0,spot⟩:Option Addr)=some ⟨b,off,none⟩∧0≤b∧b<W.1.size∧W.cell? ⟨b,off+i,none⟩=some (.int .i64 k)) (fun i hi=>by
   obtain ⟨cs,h1,h2⟩:=hel i (by omega)
   rw [Tryz.c3] at h1
   obtain ⟨_,hcl,hcc⟩:=World.cells?_some h1
   obtain ⟨c,rfl⟩:∃ c,cs=[c]:=by
    match cs,hcl with
    | [c],_=>exact ⟨c,rfl⟩
   obtain ⟨k,rfl⟩:=Ys h2
   have hc0:W.cell? (((⟨b0,off0,spot⟩:Addr).add (i*1)).add 0)=some (.int .i64 k):=hcc 0 (by omega)
   have e:=hspot (by omega)
   subst e
   have ea:(((⟨b0,off0,none⟩:Addr).add (i*1)).add 0)=⟨b0,off0+i,none⟩:=by simp [add_plain]
   rw [ea] at hc0
   exact ⟨k,b0,off0,rfl,zle _,cell_lt hc0,hc0⟩)
  exact ⟨some ⟨b0,off0,spot⟩,len,m,s,hc,by omega,hsk⟩
set_option maxRecDepth 100000 in
theorem openAck {H:Type} {enc:TypeId × Value→H} {W:World} {fuel:Nat} {cs:List Value} {x:DataW H × List MemPlace} (h:DataW.trod enc Tryz.prog W 0 (fun _=>true) true fuel 100 cs=some x) (hs:Fits 100 x.1) :
  ∃ (a:Ak) (ad:Option Addr) (cap:Nat),cs=[.int .i64 a.ix,.slice ad a.n cap]∧IntsIn W 0 W.1.size ad a.n a.s∧AkFit a:=by
 obtain ⟨xs,n,_,rfl,hlen,hxl,hf⟩:=DataW.trod_struct Tryz.underlying100 h
 rw [Tryz.c100] at hlen
 obtain ⟨c0,c1,rfl⟩:=list2 hlen
 obtain ⟨y0,y1,rfl⟩:=list2 (show xs.length=2 from hxl)
 have g0:=hf 0 _ rfl
 have g1:=hf 1 _ rfl
 simp only [List.getElem?_cons_succ,List.getElem?_cons_zero] at g0 g1
 have hs':∀ z,z ∈ DataW.weights Tryz.prog 27 y1.1→z≤reachBytes:=fun z hz=>hs z (by
  simp only [List.map_cons,List.map_nil,DataW.weights,Tryz.underlying100,DataW.weightsEach,List.mem_append]
  simp [hz])
 obtain ⟨b,rfl⟩:=Ys g0
 obtain ⟨ad,n,cap,s,rfl,hn,hin⟩:=openInts g1 (fun z hz=>hs' z hz)
 exact ⟨⟨b,n,s⟩,ad,cap,rfl,hin,⟨hn⟩⟩
set_option maxRecDepth 100000 in
theorem openAcks {H:Type} {enc:TypeId × Value→H} {W:World} {fuel:Nat} {v:Value} {x:DataW H × List MemPlace} (h:DataW.trod enc Tryz.prog W 0 (fun _=>true) true fuel 28 [v]=some x) (hs:Fits 28 x.1) :
  ∃ ad n cap xs,v=.slice ad n cap∧(n:Int)≤8796093022208∧AksIn W 0 W.1.size ad n xs∧∀ i,i<n→AkFit (xs i):=by
 obtain ⟨ad,n,cap,rfl,hn,hel⟩:=openSl Tryz.underlying28 Tryz.c100 (by omega) h hs (by rw [Tryz.b100];omega)
 obtain ⟨xs,hxs⟩:=skol (⟨0,0,fun _=>0⟩:Ak) (p:=fun i o=>(∃ b off ah ch,ad=some ⟨b,off,none⟩∧0≤b∧b<W.1.size∧AkCells W b (off+i*2) o ah ch∧IntsIn W 0 W.1.size ah o.n o.s)∧AkFit o) (fun i hi=>by
  obtain ⟨b,off,cs,k,y,rfl,hb,hc,ht,hf⟩:=hel i hi
  obtain ⟨o,ah,ch,rfl,hin,hfit⟩:=openAck ht hf
  exact ⟨o,⟨b,off,ah,ch,rfl,zle _,hb,⟨hc 0 (by omega),hc 1 (by omega)⟩,hin⟩,hfit⟩)
 exact ⟨ad,n,cap,xs,rfl,hn,fun i hi=>(hxs i hi).1,fun i hi=>(hxs i hi).2⟩
set_option maxRecDepth 100000 in
theorem openMss {H:Type} {enc:TypeId × Value→H} {W:World} {fuel:Nat} {v:Value} {x:DataW H × List MemPlace} (h:DataW.trod enc Tryz.prog W 0 (fun _=>true) true fuel 25 [v]=some x) (hs:Fits 25 x.1) :
  ∃ ad n cap xs,v=.slice ad n cap∧(n:Int)≤8796093022208∧MssIn W 0 W.1.size ad n xs∧∀ i,i<n→Ji (xs i):=by
 obtain ⟨ad,n,cap,rfl,hn,hel⟩:=openSl Tryz.underlying25 Tryz.c48 (by omega) h hs (by rw [Tryz.b48];omega)
 obtain ⟨xs,hxs⟩:=skol (⟨0,0,0,0,0,0,⟨#[]⟩,0,fun _=>⟨0,⟨#[]⟩⟩⟩:Ms) (p:=fun i o=>(∃ b off ah ch,ad=some ⟨b,off,none⟩∧0≤b∧b<W.1.size∧MsCells W b (off+i*8) o ah ch∧SlsIn W 0 W.1.size ah o.n o.s)∧Ji o) (fun i hi=>by
  obtain ⟨b,off,cs,k,y,rfl,hb,hc,ht,hf⟩:=hel i hi
  obtain ⟨o,ah,ch,rfl,hin,hfit⟩:=openMess ht hf
  exact ⟨o,⟨b,off,ah,ch,rfl,zle _,hb,⟨hc 0 (by omega),hc 1 (by omega),hc 2 (by omega),hc 3 (by omega),hc 4 (by omega),hc 5 (by omega),hc 6 (by omega),hc 7 (by omega)⟩,hin⟩,hfit⟩)
 exact ⟨ad,n,cap,xs,rfl,hn,fun i hi=>(hxs i hi).1,fun i hi=>(hxs i hi).2⟩
set_option maxRecDepth 100000 in
theorem openRec {H:Type} {enc:TypeId × Value→H} {W:World} {fuel:Nat} {cs:List Value} {x:DataW H × List MemPlace} (h:DataW.trod enc Tryz.prog W 0 (fun _=>true) true fuel 30 cs=some x) (hs:Fits 30 x.1) :
  ∃ (r:Rc) (A:RcA),cs=(rcC r A).toList∧RcIn W 0 W.1.size r A∧ZR r:=by
 obtain ⟨xs,n,_,rfl,hlen,hxl,hf⟩:=DataW.trod_struct Tryz.underlying30 h
 rw [Tryz.c30] at hlen
 obtain ⟨c0,c1,c2,c3,c4,c5,c6,c7,c8,c9,c10,c11,c12,c13,c14,c15,c16,c17,rfl⟩:=list18 hlen
 obtain ⟨y0,y1,y2,y3,y4,y5,y6,y7,y8,y9,y10,y11,y12,y13,rfl⟩:=list14 (show xs.length=14 from hxl)
 have g0:DataW.trod enc Tryz.prog W 0 (fun _=>true) true n 3 [c0]=some y0:=hf 0 _ rfl
 have g1:DataW.trod enc Tryz.prog W 0 (fun _=>true) true n 3 [c1]=some y1:=hf 1 _ rfl
 have g2:DataW.trod enc Tryz.prog W 0 (fun _=>true) true n 4 [c2]=some y2:=hf 2 _ rfl
 have g3:DataW.trod enc Tryz.prog W 0 (fun _=>true) true n 24 [c3,c4,c5]=some y3:=hf 3 _ rfl
 have g4:DataW.trod enc Tryz.prog W 0 (fun _=>true) true n 24 [c6,c7,c8]=some y4:=hf 4 _ rfl
 have g5:DataW.trod enc Tryz.prog W 0 (fun _=>true) true n 25 [c9]=some y5:=hf 5 _ rfl
 have g6:DataW.trod enc Tryz.prog W 0 (fun _=>true) true n 26 [c10]=some y6:=hf 6 _ rfl
 have g7:DataW.trod enc Tryz.prog W 0 (fun _=>true) true n 4 [c11]=some y7:=hf 7 _ rfl
 have g8:DataW.trod enc Tryz.prog W 0 (fun _=>true) true n 4 [c12]=some y8:=hf 8 _ rfl
 have g9:DataW.trod enc Tryz.prog W 0 (fun _=>true) true n 3 [c13]=some y9:=hf 9 _ rfl
 have g10:DataW.trod enc Tryz.prog W 0 (fun _=>true) true n 27 [c14]=some y10:=hf 10 _ rfl
 have g11:DataW.trod enc Tryz.prog W 0 (fun _=>true) true n 22 [c15]=some y11:=hf 11 _ rfl
 have g12:DataW.trod enc Tryz.prog W 0 (fun _=>true) true n 28 [c16]=some y12:=hf 12 _ rfl
 have g13:DataW.trod enc Tryz.prog W 0 (fun _=>true) true n 3 [c17]=some y13:=hf 13 _ rfl
 have w3:Fits 24 y3.1:=fun z hz=>hs z (by
  simp only [List.map_cons,List.map_nil,DataW.weights,Tryz.underlying30,DataW.weightsEach,List.mem_append]
  simp [hz])
 have w4:Fits 24 y4.1:=fun z hz=>hs z (by
  simp only [List.map_cons,List.map_nil,DataW.weights,Tryz.underlying30,DataW.weightsEach,List.mem_append]
  simp [hz])
 have w5:Fits 25 y5.1:=fun z hz=>hs z (by
  simp only [List.map_cons,List.map_nil,DataW.weights,Tryz.underlying30,DataW.weightsEach,List.mem_append]
  simp [hz])
 have w6:Fits 26 y6.1:=fun z hz=>hs z (by
  simp only [List.map_cons,List.map_nil,DataW.weights,Tryz.underlying30,DataW.weightsEach,List.mem_append]
  simp [hz])
 have w10:Fits 27 y10.1:=fun z hz=>hs z (by
  simp only [List.map_cons,List.map_nil,DataW.weights,Tryz.underlying30,DataW.weightsEach,List.mem_append]
  simp [hz])
 have w11:Fits 22 y11.1:=fun z hz=>hs z (by
  simp only [List.map_cons,List.map_nil,DataW.weights,Tryz.underlying30,DataW.weightsEach,List.mem_append]
  simp [hz])
 have w12:Fits 28 y12.1:=fun z hz=>hs z (by
  simp only [List.map_cons,List.map_nil,DataW.weights,Tryz.underlying30,DataW.weightsEach,List.mem_append]
  simp [hz])
 obtain ⟨i0,rfl⟩:=Ys g0
 obtain ⟨i1,rfl⟩:=Ys g1
 obtain ⟨i2,rfl⟩:=Uq g2
 obtain ⟨i7,rfl⟩:=Uq g7
 obtain ⟨i8,rfl⟩:=Uq g8
 obtain ⟨i9,rfl⟩:=Ys g9
 obtain ⟨i13,rfl⟩:=Ys g13
 obtain ⟨d3,a3,p3,e3,in3,f3⟩:=openDisk g3 w3
 obtain ⟨d4,a4,p4,e4,in4,f4⟩:=openDisk g4 w4
 obtain ⟨a5,n5,p5,s5,rfl,m5,in5,f5⟩:=openMss g5 w5
 obtain ⟨a6,n6,p6,s6,rfl,in6,m6,f6⟩:=openStrs g6 w6
 obtain ⟨a10,n10,p10,s10,rfl,m10,in10⟩:=openInts g10 w10
 obtain ⟨a11,n11,p11,s11,rfl,m11,in11,f11⟩:=Ku g11 w11
 obtain ⟨a12,n12,p12,s12,rfl,m12,in12,f12⟩:=openAcks g12 w12
 simp only [List.cons.injEq,and_true] at e3 e4
 obtain ⟨rfl,rfl,rfl⟩:=e3
 obtain ⟨rfl,rfl,rfl⟩:=e4
 exact ⟨⟨i0,i1,i2,d3,d4,n5,s5,n6,s6,i7,i8,i9,n10,s10,n11,s11,n12,s12,i13⟩,⟨a3,a4,a5,a6,a10,a11,a12,p3,p4,p5,p6,p10,p11,p12⟩,rfl,⟨in3,in4,in5,in6,in10,in11,in12⟩,⟨f3,f4,m5,f5,m6,f6,m10,m11,f11,m12,f12⟩⟩
set_option maxRecDepth 100000 in
theorem openRc {H:Type} {enc:TypeId × Value→H} {W:World} {b0:Nat} {v:Value} {d:DataW H} {p:List MemPlace} (hv:Value.okWide Tryz.prog W .any b0 30 v) (h:DataW.Trod enc Tryz.prog W 0 (fun _=>true) true 30 v d p) (hs:Fits 30 d) :
  ∃ (r:Rc) (A:RcA),v=rcV r A∧RcIn W 0 W.1.size r A∧ZR r:=by
 obtain ⟨cs,rfl,hsz⟩:=okWide_struct Tryz.underlying30 hv
 obtain ⟨fuel,hf0⟩:=h
 obtain ⟨r,A,hcs,h1,h2⟩:=openRec hf0 hs
 refine ⟨r,A,?_,h1,h2⟩
 have:cs=rcC r A:=by
  apply Array.ext'
  exact hcs
 rw [this]
theorem RowF.of {w:World} {g n z:Nat} {f:Nat→List Value} (hz:0<z) (hl:∀ i,i<n→(f i).length=z) (h:∀ i,i<n→∀ k,k<z→w.cell? ⟨g,i*z+k,none⟩=(f i)[k]?) (hf:∀ j,w.frozen? ⟨g,j,none⟩=false) (hlt:g<w.1.size):RowF w g (n*z) (YW z f):=by
 refine ⟨hlt,hf,fun j hj=>?_⟩
 have k1:j / z<n:=Nat.div_lt_of_lt_mul (by rw [Nat.mul_comm];exact hj)
 have k2:j % z<z:=Nat.mod_lt _ hz
 have k3:j / z*z+j % z=j:=by rw [Nat.mul_comm];exact Nat.div_add_mod j z
 have:=h (j / z) k1 (j % z) k2
 rw [k3] at this
 rw [this,YW,List.getD_eq_getElem?_getD,List.getElem?_eq_getElem (by rw [hl _ k1];exact k2)]
 rfl
theorem SlsOwnAt.at {w:World} {g n:Nat} {x:Nat→Sl} (h:SlsOwnAt w g n n x):SlsAt w (some ⟨g,0,none⟩) g n x:=
 ⟨fun _=>rfl,fun _=>⟨_,RowF.of (by omega) (fun _ _=>rfl) (fun i hi k hk=>by
  obtain ⟨a0,a1⟩:=h.at_ i hi
  rcases (show k=0∨k=1 by omega) with rfl|rfl
  ·exact a0
  ·exact a1) h.room.free h.room.lt,fun i _=>Ud x i⟩⟩
theorem SlsOwn.at {w:World} {lo hi:Nat} {ad:Option Addr} {n:Nat} {x:Nat→Sl} (h:SlsOwn w lo hi ad n x):∃ g,SlsAt w ad g n x∧lo≤g∧g<hi:=by
 obtain ⟨g,rfl,h1,h2,h3⟩:=h
 exact ⟨g,h3.at,h1,h2⟩
theorem apTb5 {P:Prop} (h:P:=by
  by_cases h0:n=0
  ·subst h0;exact ⟨0,fun i hi=>absurd hi (nlz _),fun h=>absurd rfl h⟩
  ·obtain ⟨b,off,e1,e2,e3,_⟩:=h 0 (by omega)
   refine ⟨b,fun i hi=>?_,fun _=>⟨e2,e3⟩⟩
   obtain ⟨b',off',f1,f2,f3,f4⟩:=h i hi
   rw [e1] at f1
   cases f1
   exact ⟨b,off,e1,lrf _,Nat.lt_succ_self _,f4⟩):P:=h
theorem StrsOwn.one {w:World} {lo hi:Nat} {ad:Option Addr} {n:Nat} {s:Nat→ByteArray} (h:StrsOwn w lo hi ad n s):∃ b,StrsOwn w b (b+1) ad n s∧(n≠0→lo≤b∧b<hi):=by
 exact apTb5
theorem IntsOwn.one {w:World} {lo hi:Nat} {ad:Option Addr} {n:Nat} {s:Nat→Int} (h:IntsOwn w lo hi ad n s):∃ b,IntsOwn w b (b+1) ad n s∧(n≠0→lo≤b∧b<hi):=by
 exact apTb5
theorem r_le {r:Nat→Nat} {n:Nat} (h:∀ i,i<n→r i≤r (i+1)) {i j:Nat} (hij:i≤j) (hj:j≤n):r i≤r j:=by
 induction j with
 | zero=>
   have:i=0:=by omega
   subst this;exact lrf _
 | succ m ih=>
  rcases Nat.lt_or_ge m i with h1|h1
  ·have:i=m+1:=by omega
   subst this;exact lrf _
  ·exact ltr (ih h1 (by omega)) (h m (by omega))
theorem apart_of {g n:Nat} {N hb r:Nat→Nat} (h0:g<r 0) (hm:∀ i,i<n→r i≤r (i+1)) (h:∀ i,i<n→N i≠0→r i≤hb i∧hb i<r (i+1)):ApartH g n N hb:=
 ⟨fun i hi hn e=>by have:=(h i hi hn).1;have:=r_le hm (zle i) (by omega);omega,fun i j hi hj h1 h2 e=>by
  have e1:=h i hi h1
  have e2:=h j hj h2
  rcases Nat.lt_trichotomy i j with q|q|q
  ·have:=r_le hm (i:=i+1) (j:=j) (by omega) (by omega);omega
  ·exact q
  ·have:=r_le hm (i:=j+1) (j:=i) (by omega) (by omega);omega⟩
theorem MssOwnIn.at {w:World} {lo hi:Nat} {ad:Option Addr} {n:Nat} {x:Nat→Ms} (k:MssOwnIn w lo hi ad n x):∃ g A C hb,MssAt w ad g n x A C hb∧∀ q,blkH g n (fun i=>(x i).n) hb q→lo≤q∧q<hi:=by
 obtain ⟨g,h,r,rfl,h1,h2,o⟩:=k
 obtain ⟨F,hF⟩:=skolC (n:=n) ((none,0,0):(Option Addr × Nat × Nat)) (p:=fun i q=>MsCells w g (i*8) (x i) q.1 q.2.1∧SlsAt w q.1 q.2.2 (x i).n (x i).s∧r i≤q.2.2∧q.2.2<r (i+1)) (fun i hi'=>by
  obtain ⟨ah,ch,e1,e2⟩:=o.at_ i hi'
  obtain ⟨b,e3,e4,e5⟩:=e2.at
  exact ⟨(ah,ch,b),e1,e3,e4,e5⟩)
 have rh:∀ i,i<n→r (i+1)≤h:=fun i hi=>ltr (r_le o.mono (i:=i+1) (j:=n) (by omega) (lrf _)) o.rn
 refine ⟨g,fun i=>(F i).1,fun i=>(F i).2.1,fun i=>(F i).2.2,⟨fun _=>rfl,fun _=>⟨_,RowF.of (by omega) (fun _ _=>rfl) (fun i hi k hk=>?_) o.room.free o.room.lt,fun i _=>msR_at x (fun i=>(F i).1) (fun i=>(F i).2.1) i⟩,fun i hi=>(hF i hi).2.1,fun i hi _=>?_,apart_of o.r0 o.mono (fun i hi _=>(hF i hi).2.2)⟩,fun q hq=>?_⟩
 ·obtain ⟨a0,a1,a2,a3,a4,a5,a6,a7⟩:=(hF i hi).1
  rcases (show k=0∨k=1∨k=2∨k=3∨k=4∨k=5∨k=6∨k=7 by omega) with rfl|rfl|rfl|rfl|rfl|rfl|rfl|rfl
  ·exact a0
  ·exact a1
  ·exact a2
  ·exact a3
  ·exact a4
  ·exact a5
  ·exact a6
  ·exact a7
 ·have:=(hF i hi).2.2.2;have:=rh i hi;have:=o.hi;omega
 ·rcases hq with ⟨h0,rfl⟩|⟨i,hi,_,rfl⟩
  ·have:=o.r0;have:=r_le o.mono (zle n) (lrf _);have:=o.rn;omega
  ·have e:=(hF i hi).2.2
   have:=o.r0;have:=r_le o.mono (zle i) (by omega);have:=rh i hi
   dsimp only;omega
theorem AksOwnIn.at {w:World} {lo hi:Nat} {ad:Option Addr} {n:Nat} {x:Nat→Ak} (k:AksOwnIn w lo hi ad n x):∃ g A C hb,AksAt w ad g n x A C hb∧∀ q,blkH g n (fun i=>(x i).n) hb q→lo≤q∧q<hi:=by
 obtain ⟨g,h,r,rfl,h1,h2,o⟩:=k
 obtain ⟨F,hF⟩:=skolC (n:=n) ((none,0,0):(Option Addr × Nat × Nat)) (p:=fun i q=>AkCells w g (i*2) (x i) q.1 q.2.1∧IntsOwn w q.2.2 (q.2.2+1) q.1 (x i).n (x i).s∧((x i).n≠0→r i≤q.2.2∧q.2.2<r (i+1))) (fun i hi'=>by
  obtain ⟨ah,ch,e1,e2⟩:=o.at_ i hi'
  obtain ⟨b,e3,e4⟩:=e2.one
  exact ⟨(ah,ch,b),e1,e3,e4⟩)
 have rh:∀ i,i<n→r (i+1)≤h:=fun i hi=>ltr (r_le o.mono (i:=i+1) (j:=n) (by omega) (lrf _)) o.rn
 refine ⟨g,fun i=>(F i).1,fun i=>(F i).2.1,fun i=>(F i).2.2,⟨fun _=>rfl,fun _=>⟨_,RowF.of (by omega) (fun _ _=>rfl) (fun i hi k hk=>?_) o.room.free o.room.lt,fun i _=>akR_at x (fun i=>(F i).1) (fun i=>(F i).2.1) i⟩,fun i hi=>(hF i hi).2.1,fun i hi h0=>?_,apart_of o.r0 o.mono (fun i hi h0=>(hF i hi).2.2 h0)⟩,fun q hq=>?_⟩
 ·obtain ⟨a0,a1⟩:=(hF i hi).1
  rcases (show k=0∨k=1 by omega) with rfl|rfl
  ·exact a0
  ·exact a1
 ·have:=((hF i hi).2.2 h0).2;have:=rh i hi;have:=o.hi;omega
 ·rcases hq with ⟨h0,rfl⟩|⟨i,hi,h0,rfl⟩
  ·have:=o.r0;have:=r_le o.mono (zle n) (lrf _);have:=o.rn;omega
  ·have e:=(hF i hi).2.2 h0
   have:=o.r0;have:=r_le o.mono (zle i) (by omega);have:=rh i hi
   dsimp only;omega
theorem RcOwnAt.at {w:World} {r:Rc} {A:RcA} {lo m1 m2 m3 m4 m5 m6 hi:Nat} (h:RcOwnAt w r A lo m1 m2 m3 m4 m5 m6 hi):∃ p:RcP,p.A=A∧RcAt w r p∧∀ k,rbs p r k→lo≤k:=by
 obtain ⟨o0,o1,o2,o3,o4,o5,o6,l0,l1,l2,l3,l4,l5,l6,top⟩:=h
 obtain ⟨g0,a0,b0,c0⟩:=o0.at
 obtain ⟨g1,a1,b1,c1⟩:=o1.at
 obtain ⟨g2,A2,C2,h2,a2,b2⟩:=o2.at
 obtain ⟨g3,a3,b3⟩:=o3.one
 obtain ⟨g4,a4,b4⟩:=o4.one
 obtain ⟨g5,a5,b5,c5⟩:=o5.at
 obtain ⟨g6,A6,C6,h6,a6,b6⟩:=o6.at
 refine ⟨⟨A,g0,g1,g2,g3,g4,g5,g6,A2,C2,h2,A6,C6,h6⟩,rfl,RcAt.ofRows (fun j=>match j with|0=>lo|1=>m1|2=>m2|3=>m3|4=>m4|5=>m5|6=>m6|_=>hi) a0 a1 a2 a3 a4 a5 a6 ?_ top ?_,?_⟩
 ·intro j hj
  rcases (show j=0∨j=1∨j=2∨j=3∨j=4∨j=5∨j=6 by omega) with rfl|rfl|rfl|rfl|rfl|rfl|rfl
  ·exact l0
  ·exact l1
  ·exact l2
  ·exact l3
  ·exact l4
  ·exact l5
  ·exact l6
 ·intro j k hj hk
  rcases (show j=0∨j=1∨j=2∨j=3∨j=4∨j=5∨j=6 by omega) with rfl|rfl|rfl|rfl|rfl|rfl|rfl
  ·obtain ⟨_,rfl⟩:=hk;exact ⟨b0,c0⟩
  ·obtain ⟨_,rfl⟩:=hk;exact ⟨b1,c1⟩
  ·exact b2 k hk
  ·obtain ⟨h0,rfl⟩:=hk;exact b3 h0
  ·obtain ⟨h0,rfl⟩:=hk;exact b4 h0
  ·obtain ⟨_,rfl⟩:=hk;exact ⟨b5,c5⟩
  ·exact b6 k hk
 ·rintro k ⟨j,hj,hk⟩
  rcases (show j=0∨j=1∨j=2∨j=3∨j=4∨j=5∨j=6 by omega) with rfl|rfl|rfl|rfl|rfl|rfl|rfl
  ·have h9:k=g0:=hk.2;omega
  ·have h9:k=g1:=hk.2;omega
  ·have:=b2 k hk;omega
  ·have h9:k=g3:=hk.2;have:=b3 hk.1;omega
  ·have h9:k=g4:=hk.2;have:=b4 hk.1;omega
  ·have h9:k=g5:=hk.2;omega
  ·have:=b6 k hk;omega
theorem mkMss_le (k0:Nat) (x:Nat→Ms):∀ n,ZS k0 x n≤k0+7*Xa n x
 | 0=>Nat.le_add_right _ _
 | n+1=>by
  have ih:=mkMss_le k0 x n
  have e:Xa (n+1) x=Xa n x+1+szMs (x n):=by unfold Xa;simp only [Zz];omega
  have e2:(x n).n≤szMs (x n):=by unfold szMs YJ;omega
  rw [ZS,e]
  omega
theorem mkAks_le (k0:Nat) (x:Nat→Ak):∀ n,ZT k0 x n≤k0+Xb n x
 | 0=>Nat.le_add_right _ _
 | n+1=>by
  have ih:=mkAks_le k0 x n
  have e:Xb (n+1) x=Xb n x+1+szAk (x n):=by unfold Xb;simp only [Zz];omega
  have e2:(x n).n=szAk (x n):=rfl
  rw [ZT,e]
  omega
theorem mkRc_le (k0:Nat) (r:Rc):mkRc k0 r≤k0+7*szRc r:=by
 have h1:=mkMss_le (kk2 k0 r) r.hs r.hn
 have h2:=mkAks_le (kk6 k0 r) r.as_ r.an
 unfold mkRc
 unfold kk6 kk5 kk4 kk3 kk2 kk1 at *
 unfold szRc szDk YJ YR
 omega
end Go.Proofs.YtokkbdlofbdljaaGreat
namespace Go.Proofs.YtokkbdlofbdljaaGreat
open Go.RowKit
theorem Tryz.sz30:(Tryz.prog.info? 30).map (·.size)=some 18:=by kernel_rfl
theorem LD30 {ops:Array Oper} {rest:List Oper} {op:Oper} {a:Act} {w:World} {Q:Exit→Act→World→Prop} {x:Operand} {b:Nat} (cs:List Value) (hc:Holds w b cs.toArray) (h:wpList Tryz.prog ops Q rest (a.put op.dst (.agg cs.toArray)) w) (hgd:op.guard=none:=by rfl) (ho:op.op=.load 30 x:=by rfl) (hx:a.eval x=.pointer (some ⟨b,0,none⟩):=by rfl) (hl:some 18=some cs.length:=by rfl):wpList Tryz.prog ops Q (op::rest) a w:=wpList_load_mid hgd 30 x ho b 0 hx cs _ (Holds.range (cs:=cs) hc) Tryz.underlying30 rfl (Tryz.sz30.trans hl) h
theorem Uk (f:Nat→Nat):∀ {n i:Nat},i<n→f i≤Zz f n
 | 0,i,h=>absurd h (nlz _)
 | n+1,i,h=>by
  unfold Zz
  by_cases e:i=n
  ·subst e;omega
  ·have:=Uk f (n:=n) (i:=i) (by omega);omega
theorem rcSmall_of {r:Rc} (h:(szRc r:Int)≤1048576):ZW r:=by
 unfold szRc szDk Xa YR YJ Xb at h
 refine ⟨by omega,by omega,by omega,fun i hi=>?_,by omega,by omega,by omega,by omega,fun i hi=>?_⟩
 ·have:=Uk (fun i=>szMs (r.hs i)) hi
  simp only [szMs,YJ] at this
  simp only [szMs,YJ] at h
  omega
 ·have:=Uk (fun i=>szAk (r.as_ i)) hi
  simp only [szAk] at this
  simp only [szAk] at h
  omega
theorem YX {P:Program} {ops:Array Oper} {Q:Exit→Act→World→Prop} {i:Nat} {K:Act→World→Prop} {a:Act} {w:World} {o:Oper} (ho:ops[i]? = some o) (hg:o.guard=none) (ty:TypeId) (x:Operand) (hop:o.op=.load ty x)
  (b:Nat) (hx:a.eval x=.pointer (some ⟨b,0,none⟩)) (cs:List Value) (d:TypeDesc) (hc:w.rangeAt b 0 cs)
  (hu:P.underlying ty=some d) (hd:d.isRow=true) (hi:(P.info? ty).map (·.size)=some cs.length)
  (h:K (a.put o.dst (.agg cs.toArray)) w):wpOp P ops Q i K a w:=
 Zi ho hg (wp_load_mid ty x hop b 0 hx cs d hc hu hd hi h)
theorem RcIn.mono {w:World} {lo hi lo2 hi2:Nat} {r:Rc} {A:RcA} (h:RcIn w lo hi r A) (h1:lo2≤lo) (h2:hi≤hi2):RcIn w lo2 hi2 r A:=
 ⟨h.sf.mono h1 h2,h.dk.mono h1 h2,h.hs.mono h1 h2,h.ws.mono h1 h2,h.ys.mono h1 h2,h.bs.mono h1 h2,h.as_.mono h1 h2⟩
section
variable {W W':World} {S b6 b7 b8:Nat} {r:Rc} {A:RcA} {O:Rc} {A2:RcA} {rx:Rc} {p3:RcP} {Ox:Rc} {p5:RcP}
end
end Go.Proofs.YtokkbdlofbdljaaGreat
