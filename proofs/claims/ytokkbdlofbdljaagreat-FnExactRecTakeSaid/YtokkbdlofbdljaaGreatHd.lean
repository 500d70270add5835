import Derived.Test.YtokkbdlofbdljaaGreatHy
import Derived.Test.YtokkbdlofbdljaaGreatRa
namespace Go.Proofs.YtokkbdlofbdljaaGreat
open Go.RowKit
set_option maxHeartbeats 8000000
def KN (r:Rc) (m:Ms):Rc:=if mayB r m=false then r else XO (beatN (knR (Zl r m.bal) (beatK (Zl r m.bal) m)) m) m
theorem apHd0 {P:Prop} (h:P:=by
  obtain ⟨k,pk,hk,rfl,sk,bk,mk,zk⟩:=hrel
  have SK:=hid sk
  have BK:=hid bk
  have MK:=hid mk
  have ZK:=hid zk
  have HW:=hid (Kl r2 m k)
  clear sk bk mk zk SX XB XM XZ
  by_cases hkn:k<r2.wn
  ·skip
   obtain ⟨rk,hrk⟩:∃ rk,YO r2 m k=rk:=⟨_,rfl⟩
   have HRK:=hid hrk
   rw [hrk] at SK BK HW
   clear hrk
   have HK3:=hid (SK.out.g.at_.o3 k (by rw [HW.out];exact hkn))
   obtain ⟨b,off,eA,hb1,hb2,hcw,_⟩:=HK3.out
   clear HK3
   have c10:wr.cell? ⟨w.1.size,10,none⟩=some (.slice (some ⟨b,off,none⟩) r2.wn pk.A.wc):=by rw [←eA,←HW.out];exact BK.out.cell 10
   have hblt:b<wr.1.size:=by have:=SK.out.g.at_.lt pk.g3 ⟨3,by omega,by rw [HW.out];omega,rfl⟩;omega
   have HCW:=hid hcw
   have C10:=hid c10
   have hBz:=BK.out.lt
   clear hcw eA
   go_wp2
   clear c10
   skip
   refine lbtReg11 _ _ _ _ _ _ _ _ _ _ _ _ _ _ _ _ _ _ _ _ _ _ _ _ _ _ _ _ _ _ _ _ _ _ _ _ _ _ _ _ _ _ _ _ _ _ _ _ _ _ _ _ _ _ _ _ _ _ _ _ _ _ _ _ _ _ _ _ _ _ _ _ _ _ _ _ _ _ _ _ _ _ _ _ _ _ _ _ _ w.1.size (w.1.size+1) b off k r2.wn pk.A.wc m.from_ (rk.ws k) rk pk (Zo rk (KO rk m k)) wr (fun p' Y=>RcG Y (Zo rk (KO rk m k)) p'∧FrP (rbs pk rk) wr Y∧(∀ q,rbs p' (Zo rk (KO rk m k)) q→rbs pk rk q∨wr.1.size≤q)) BK.out MK.out.lt hblt hkn (by omega) (MK.out.cell 1) C10.out HCW.out (fun X hb=>(Xd rk pk (KO rk m k) rfl X (SK.out.g.grow hb)).mono fun e w' ⟨p',he,h1,h2,h3⟩=>⟨p',he,h1,(FrP.of_below (P:=rbs pk rk) hb).trans h2,fun q hq=>by rcases h3 q hq with h|h;exact Or.inl h;exact Or.inr (ltr hb.size h)⟩) (fun p' Y hr=>⟨_,SK.out.keep hr.2.1 BK.out (lrf _) (by omega),rfl⟩) _ ?_
   rintro t9 v9 wz ⟨p',Y,⟨g1,f1,s1⟩,bz,fz,_⟩
   have fz2:FrP (fun q=>q=w.1.size) Y wz:=FrP.of_fr fz (fun k h1 h2=>by omega)
   have SK2:=hid ((SK.out.next g1 f1 s1).box fz2 (lrf _) (by omega))
   have BK2:=hid bz
   have MK2:=hid ((SK.out.keep f1 MK.out (by omega) (by omega)).frP fz2 (by omega))
   have ZK2:=hid ((SK.out.keep f1 ZK.out (by omega) (by omega)).frP fz2 (by omega))
   clear g1 f1 s1 bz fz fz2 SK BK MK ZK HCW C10
   go_wp2
   go_roundw
   case rel=>
    have e1:=HRK.out
    subst e1
    exact ⟨k+1,p',by omega,by go_num,SK2.out,BK2.out,MK2.out,ZK2.out⟩
   case measure=>simp [intOf];omega
  ·skip
   have hke:k=r2.wn:=by omega
   have HKE:=hid hke
   have c10:wr.cell? ⟨w.1.size,10,none⟩=some (.slice pk.A.wa r2.wn pk.A.wc):=by rw [←HW.out];exact BK.out.cell 10
   have hBz:=BK.out.lt
   clear hke
   go_wp2_with (first|((with_reducible show wpList _ _ _ (⟨some 91,Op.load 38 _,_,_,_,_⟩::_) _ _);go_must (refine LD38 (rcC (YO r2 m k) pk.A).toList BK.out.cell ?_))|((with_reducible show wpList _ _ _ (⟨none,Op.store 38 _ _,_,_,_,_⟩::_) _ _);go_must (refine Zd rfl 38 _ _ rfl (w.1.size+1+1) (rcC (YO r2 m k) pk.A).toList rfl rfl ZK.out rfl Tryz.sz38 (by simp [Value.oneCell']) ?_;intro Vz hr hfr hsv;have HBVz:=hid hr;have HFVz:=hid (FrP.of_fr (P:=fun q=>q=(w.1.size+1+1)) hfr (fun k h1 h2=>by omega));clear hr hfr hsv)))
   refine RZ (rcC (YO r2 m k) pk.A).toList HBVz.out.cell ?_
   have e9:=HKE.out
   subst e9
   rw [HEQ.out]
   exact (SK.out.box HFVz.out (by omega) (by omega)).done):P:=h
theorem apHd1 {P:Prop} (h:P:=by
  have S8:=hid (SJ.out.grow hw8)
  have B8:=hid (BX.out.below hw8 BX.out.lt)
  have M8:=hid (MJ.out.below hw8 MJ.out.lt)
  have Z8:=hid (ZJ.out.below hw8 ZJ.out.lt)
  clear hw8
  obtain ⟨q0,q1,q2,q3,q4,q5,q6,q7,q8,q9,q10,q11,q12,q13,q14,q15,q16,q17⟩:=Ze B8.out.cell
  clear q0 q1 q2 q3 q4 q5 q6 q8 q9 q10 q11 q12 q13 q14 q15 q16 q17
  have m1:w8.cell? ⟨(w.1.size+1),1,none⟩=some (.int .i64 m.from_):=M8.out.cell 1
  have m3:w8.cell? ⟨(w.1.size+1),3,none⟩=some (.int .i64 m.bal):=M8.out.cell 3
  have m5:w8.cell? ⟨(w.1.size+1),5,none⟩=some (.int .i64 m.kn):=M8.out.cell 5
  have hB8:=B8.out.lt
  have hM8:=M8.out.lt
  have HEQ:=hid (show O=XO (Zo (knR r1 (j:Int)) ⟨7,0,m.from_,m.bal,(knR r1 (j:Int)).dk.kn+1,0,⟨#[]⟩,0,fun _=>⟨0,⟨#[]⟩⟩⟩) m from (HQ.out j (HZ.out.trans (HJ.out.symm.trans STP.out))).trans (congrArg (fun x=>XO x m) (if_pos (by show (j:Int)<m.kn;exact e1))))
  go_wp2_with (first|((with_reducible show wpList _ _ _ (⟨some 63,Op.load 38 _,_,_,_,_⟩::_) _ _);go_must (refine LD38 (rcC (knR r1 (j:Int)) p1.A).toList B8.out.cell ?_))|(go_at_call 40;go_must (refine (Xd (knR r1 (j:Int)) p1 ⟨7,0,m.from_,m.bal,(knR r1 (j:Int)).dk.kn+1,0,⟨#[]⟩,0,fun _=>⟨0,⟨#[]⟩⟩⟩ rfl w8 S8.out.g).mono ?_;rintro e w9 ⟨p3,rfl,g1,f1,s1⟩;have SX1:=hid (S8.out.next g1 f1 s1);have XB1:=hid (S8.out.keep f1 B8.out (lrf _) (by omega));have XM1:=hid (S8.out.keep f1 M8.out (by omega) (by omega));have XZ1:=hid (S8.out.keep f1 Z8.out (by omega) (by omega));clear g1 f1 s1 q7 m1 m3 m5 hB8 hM8))|((with_reducible show wpList _ _ _ (⟨none,Op.store 38 _ _,_,_,_,_⟩::_) _ _);go_must (refine Zd rfl 38 _ _ rfl w.1.size (rcC (Zo (knR r1 (j:Int)) ⟨7,0,m.from_,m.bal,(knR r1 (j:Int)).dk.kn+1,0,⟨#[]⟩,0,fun _=>⟨0,⟨#[]⟩⟩⟩) p3.A).toList rfl rfl XB1.out rfl Tryz.sz38 (by simp [Value.oneCell']) ?_;intro Vb hr hfr hsv;have HBVb:=hid hr;have HFVb:=hid (FrP.of_fr (P:=fun q=>q=w.1.size) hfr (fun k h1 h2=>by omega));clear hr hfr hsv)))
  have SX:=hid (SX1.out.box HFVb.out (lrf _) (by omega))
  have XB:=HBVb
  have XM:=hid (XM1.out.frP HFVb.out (by omega))
  have XZ:=hid (XZ1.out.frP HFVb.out (by omega))
  obtain ⟨r2,hr2⟩:∃ r2,Zo (knR r1 (j:Int)) ⟨7,0,m.from_,m.bal,(knR r1 (j:Int)).dk.kn+1,0,⟨#[]⟩,0,fun _=>⟨0,⟨#[]⟩⟩⟩=r2:=⟨_,rfl⟩
  have hw2:r2.wn≤1000:=by rw [←hr2,Uo];exact hwn1
  rw [hr2] at SX XB HEQ
  clear hr2 S8 B8 M8 Z8 SJ BX MJ ZJ SX1 XB1 XM1 XZ1 HBVb HFVb
  go_loopw [5] (fun i wr=>∃ k pk,k≤r2.wn∧i=.int .i64 (k:Int)∧SpF w (w.1.size+3) r p wr (YO r2 m k) pk∧Bx wr w.1.size (rcC (YO r2 m k) pk.A)∧Bx wr (w.1.size+1) #[.int .i64 m.kind,.int .i64 m.from_,.int .i64 m.to,.int .i64 m.bal,.int .i64 m.ix,.int .i64 m.kn,.string m.text,.slice ma m.n mc]∧Bx wr (w.1.size+1+1) (rcL 0 0 false).toArray) (fun i _=>r2.wn-(intOf i).toNat)
  case atStart=>exact ⟨0,p3,zle _,rfl,SX.out,XB.out,XM.out,XZ.out⟩
  case round=>
   exact apHd0):P:=h
theorem apHd2 {P:Prop} (h:P:=by
  go_enter Tryz.func116,Tryz.ntmps116
  go_wp2_with (first|((with_reducible show wpList _ _ _ (⟨some 6,_,_,_,_,_⟩::_) _ _);clear mark;go_must ((generalize (((w.alloc (.cells (rcC r p.A) 38)).alloc (.cells #[.int .i64 m.kind,.int .i64 m.from_,.int .i64 m.to,.int .i64 m.bal,.int .i64 m.ix,.int .i64 m.kn,.string m.text,.slice ma m.n mc] 52)).alloc (.cells (rcL 0 0 false).toArray 38))=W at *);obtain ⟨q0,q1,q2,q3,q4,q5,q6,q7,q8,q9,q10,q11,q12,q13,q14,q15,q16,q17⟩:=Ze Q0.out.cell;have qf:=Q0.out.free;have qlt:=Q0.out.lt;have zlt:=Z0.out.lt;obtain ⟨m0,m1,m2,m3,m4,m5,m6,m7⟩:=Zy M0.out.cell;have mlt:=M0.out.lt;clear q1 q2 q3 q4 q5 q6 q7 q8 q9 q10 q11 q12 q13 q14 q15 q16 q17 m0 m2 m4 m5 m6 m7))|((with_reducible show wpList _ _ _ (⟨some 16,Op.load 38 _,_,_,_,_⟩::_) _ _);go_must (refine LD38 (rcC r p.A).toList Q0.out.cell ?_))|((with_reducible show wpList _ _ _ (⟨none,Op.store 38 _ _,_,_,_,_⟩::_) _ _);go_must (refine Zd rfl 38 _ _ rfl (w.1.size+1+1) (rcC r p.A).toList rfl rfl Z0.out rfl Tryz.sz38 (by simp [Value.oneCell']) ?_;intro Vz hr hfr hsv;have HBVz:=hid hr;have HFVz:=hid (FrP.of_fr (P:=fun q=>q=(w.1.size+1+1)) hfr (fun k h1 h2=>by omega));clear hr hfr hsv)))
  refine RZ (rcC r p.A).toList HBVz.out.cell ?_
  rw [HT.out]
  exact (SF0.out.box HFVz.out (by omega) (by omega)).done):P:=h
set_option maxRecDepth 100000 in
theorem specBeat_any (r:Rc) (p:RcP) (m:Ms) (ma:Option Addr) (mc:Nat) (w:World) (hg:RcG w r p) (hk:0≤r.dk.kn∧r.dk.kn≤r.dk.n∧r.dk.n≤60) (hwn:r.wn≤1000) :
  Calls Tryz.prog 116 #[rcV r p.A,msV m ma mc] w (SpR w r p (KN r m)):=by
 obtain ⟨hx0,hx1,hx2⟩:=hk
 have hB0:Below w.1.size w (((w.alloc (.cells (rcC r p.A) 38)).alloc (.cells #[.int .i64 m.kind,.int .i64 m.from_,.int .i64 m.to,.int .i64 m.bal,.int .i64 m.ix,.int .i64 m.kn,.string m.text,.slice ma m.n mc] 52)).alloc (.cells (rcL 0 0 false).toArray 38)):=((Zb _ _).alloc (by simp) _).alloc (by simp;omega) _
 have hN:=Bx.new3 w (rcC r p.A) #[.int .i64 m.kind,.int .i64 m.from_,.int .i64 m.to,.int .i64 m.bal,.int .i64 m.ix,.int .i64 m.kn,.string m.text,.slice ma m.n mc] (rcL 0 0 false).toArray 38 52 38
 have Q0:=hid hN.1
 have M0:=hid hN.2.1
 have Z0:=hid hN.2.2
 have SF0:=hid (SpF.new (L:=w.1.size+3) hg hB0 (by omega) (by simp))
 clear hg hN hB0
 have mark:Nat:=0
 by_cases e1:m.from_=r.num
 ·skip
  have HT:=hid (show KN r m=r from if_pos (by unfold mayB;simp [e1]))
  have e1z:(m.from_==r.num)=true:=by simp [e1]
  clear e1
  exact apHd2
 ·by_cases e2:m.bal<1
  ·skip
   have HT:=hid (show KN r m=r from if_pos (by unfold mayB;simp;omega))
   have e1z:(m.from_==r.num)=false:=by simp [e1]
   have e2z:decide (m.bal<1)=true:=decide_eq_true e2
   clear e1 e2
   exact apHd2
  ·skip
   have h3:mayB r m=true:=by unfold mayB;simp [e1];omega
   obtain ⟨O,hO⟩:∃ O,KN r m=O:=⟨_,rfl⟩
   rw [hO]
   have HQ:=hid (show ∀ Z:Nat,beatK (Zl r m.bal) m=Z→O=XO (beatN (knR (Zl r m.bal) Z) m) m from fun Z hZ=>by rw [←hO];unfold KN;rw [if_neg (by rw [h3];simp),hZ])
   clear hO h3
   have e1z:(m.from_==r.num)=false:=by simp [e1]
   have e2z:decide (m.bal<1)=false:=decide_eq_false e2
   go_enter Tryz.func116,Tryz.ntmps116
   go_wp2_with (first|((with_reducible show wpList _ _ _ (⟨some 6,_,_,_,_,_⟩::_) _ _);clear mark;go_must ((generalize (((w.alloc (.cells (rcC r p.A) 38)).alloc (.cells #[.int .i64 m.kind,.int .i64 m.from_,.int .i64 m.to,.int .i64 m.bal,.int .i64 m.ix,.int .i64 m.kn,.string m.text,.slice ma m.n mc] 52)).alloc (.cells (rcL 0 0 false).toArray 38))=W at *);obtain ⟨q0,q1,q2,q3,q4,q5,q6,q7,q8,q9,q10,q11,q12,q13,q14,q15,q16,q17⟩:=Ze Q0.out.cell;have qf:=Q0.out.free;have qlt:=Q0.out.lt;have zlt:=Z0.out.lt;obtain ⟨m0,m1,m2,m3,m4,m5,m6,m7⟩:=Zy M0.out.cell;have mlt:=M0.out.lt;clear q1 q2 q3 q4 q5 q6 q7 q8 q9 q10 q11 q12 q13 q14 q15 q16 q17 m0 m2 m4 m5 m6 m7))|((with_reducible show wpList _ _ _ (⟨some 17,Op.load 38 _,_,_,_,_⟩::_) _ _);go_must (refine LD38 (rcC r p.A).toList Q0.out.cell ?_))|(go_at_call 115;go_must (refine (JA r p m.bal W SF0.out.g).mono ?_;rintro e w1 ⟨p1,rfl,g1,f1,s1⟩;have SF1:=hid (SF0.out.next g1 f1 s1);have Q1:=hid (SF0.out.keep f1 Q0.out (lrf _) (by omega));have M1:=hid (SF0.out.keep f1 M0.out (by omega) (by omega));have Z1:=hid (SF0.out.keep f1 Z0.out (by omega) (by omega));clear g1 f1 s1 q0 m1 m3 qf qlt mlt zlt SF0 Q0 M0 Z0))|((with_reducible show wpList _ _ _ (⟨none,Op.store 38 _ _,_,_,_,_⟩::_) _ _);go_must (refine Zd rfl 38 _ _ rfl w.1.size (rcC (Zl r m.bal) p1.A).toList rfl rfl Q1.out rfl Tryz.sz38 (by simp [Value.oneCell']) ?_;intro Va hr hfr hsv;have HBVa:=hid hr;have HFVa:=hid (FrP.of_fr (P:=fun q=>q=w.1.size) hfr (fun k h1 h2=>by omega));clear hr hfr hsv;have SFa:=hid (SF1.out.box HFVa.out (lrf _) (by omega));have Ma:=hid (M1.out.frP HFVa.out (by omega));have Za:=hid (Z1.out.frP HFVa.out (by omega));clear HFVa SF1 Q1 M1 Z1)))
   have hn1:=Ke r m.bal
   have hw1:=follow_wn r m.bal
   have hq1:=Xs r m.bal
   obtain ⟨r1,hr1⟩:∃ r1,Zl r m.bal=r1:=⟨_,rfl⟩
   rw [hr1] at SFa HBVa HQ hn1 hw1 hq1
   clear hr1 e1 e1z e2 e2z
   have hk0:0≤r1.dk.kn:=by omega
   have hk1:r1.dk.kn≤r1.dk.n:=by omega
   have hk2:r1.dk.n≤60:=by omega
   have hwn1:r1.wn≤1000:=by omega
   clear hn1 hw1 hq1
   have HST:=hid (show Bx Va w.1.size (rcC (knR r1 (r1.dk.kn.toNat:Int)) p1.A) from by rw [Int.toNat_of_nonneg hk0];exact HBVa.out)
   obtain ⟨Zk,hZ⟩:∃ Z,beatK r1 m=Z:=⟨_,rfl⟩
   have HZ:=hid hZ
   clear hZ
   go_wp2
   go_loopw [] (fun wr=>∃ j:Nat,j≤r1.dk.n∧Jh r1.dk m.bal m.kn (r1.dk.n-j) j=Zk∧FrP (fun q=>q=w.1.size) Va wr∧Bx wr w.1.size (rcC (knR r1 (j:Int)) p1.A)) (fun wr=>r1.dk.n-JG wr w.1.size 7)
   case atStart=>exact ⟨r1.dk.kn.toNat,by omega,HZ.out,FrP.refl _ _,HST.out⟩
   case round=>
    obtain ⟨j,hj,hz,fx,bx⟩:=hrel
    have HJ:=hid hz
    have FX:=hid fx
    have BX:=hid bx
    have SJ:=hid ((SFa.out.box fx (lrf _) (by omega)).re (r1:=knR r1 (j:Int)) (p1:=p1) ((SFa.out.box fx (lrf _) (by omega)).g.kn _) (fun q hq=>hq))
    have MJ:=hid (Ma.out.frP fx (by omega))
    have ZJ:=hid (Za.out.frP fx (by omega))
    clear hz fx bx HST HBVa
    have HIA:=hid (show JG wr w.1.size 7=j from by have c7:wr.cell? ⟨w.1.size,7,none⟩=some (.int .i64 (j:Int)):=BX.out.cell 7;unfold JG;rw [c7];simp)
    by_cases e1:(j:Int)<m.kn
    ·by_cases e2:j<r1.dk.n
     ·by_cases e3:(r1.dk.s j).bal=m.bal
      ·skip
       have o1:=SJ.out.g.at_.o1
       have eD:p1.A.da=some ⟨p1.g1,0,none⟩:=o1.addr (by show 0<r1.dk.n;omega)
       obtain ⟨cc,rr,hat⟩:=o1.row (by show 0<r1.dk.n;omega)
       have e2Z:(j:Int)<(r1.dk.n:Int):=by omega
       have hs0:wr.cell? ⟨p1.g1,j*2,none⟩=some (.int .i64 (r1.dk.s j).bal):=by rw [rr.cell _ (by show j*2<r1.dk.n*2;omega),(hat j e2).1]
       have hgl:=rr.lt
       clear o1 rr hat
       have c8:wr.cell? ⟨w.1.size,8,none⟩=some (.slice (some ⟨p1.g1,0,none⟩) r1.dk.n p1.A.dc):=by rw [←eD];exact BX.out.cell 8
       clear eD
       rw [e3] at hs0
       go_wp2
       have sS7:=Zc (W1:=wr) (p:=⟨w.1.size,7,none⟩) (v:=.int .i64 (j:Int)) (BX.out.cell 7) BX.out.lt
       have sS8:=Zc (W1:=wr) (p:=⟨w.1.size,8,none⟩) (v:=.slice (some ⟨p1.g1,0,none⟩) r1.dk.n p1.A.dc) c8 BX.out.lt
       have sM5:=Zc (W1:=wr) (p:=⟨(w.1.size+1),5,none⟩) (v:=.int .i64 m.kn) (MJ.out.cell 5) MJ.out.lt
       have sM3:=Zc (W1:=wr) (p:=⟨(w.1.size+1),3,none⟩) (v:=.int .i64 m.bal) (MJ.out.cell 3) MJ.out.lt
       have sgj:=Zc (W1:=wr) (p:=⟨p1.g1,(j*2),none⟩) (v:=.int .i64 m.bal) hs0 hgl
       have hne:Nonempty (GW wr):=⟨⟨_,br _ _⟩⟩
       refine Zf (by kernel_rfl) (by kernel_rfl) ?_
       repeat (go_big_quiet_step (fail))
       refine wpQuiet_nil ?_
       rintro w8 ⟨u,hu⟩
       have hw8:Below wr.1.size wr w8:=hu▸u.prop
       clear hu u hne sS7 sS8 sM5 sM3 sgj
       have S8:=hid (SJ.out.grow hw8)
       have B8:=hid (BX.out.below hw8 BX.out.lt)
       have F8:=hid (FX.out.trans (FrP.of_below hw8))
       clear hw8 c8 hs0
       have c7:w8.cell? ⟨w.1.size,7,none⟩=some (.int .i64 (j:Int)):=B8.out.cell 7
       have gf:=B8.out.free
       have hB8:=B8.out.lt
       have B9:Hid (Bx (w8.setCell ⟨w.1.size,7,none⟩ (.int .i64 ((j:Int)+1))) w.1.size (rcC (knR r1 ((j+1:Nat):Int)) p1.A)):=hid (B8.out.to (Jp B8.out.cell (.int .i64 ((j:Int)+1))))
       have F9:=hid (F8.out.setCell (p:=⟨w.1.size,7,none⟩) rfl (.int .i64 ((j:Int)+1)))
       have E1:=hid e1
       have E3:=hid e3
       clear e1 e3
       go_wp2
       clear c7 gf
       go_roundw
       case rel=>exact ⟨j+1,by omega,by rw [←HJ.out];exact (beatA_go _ _ _ j e2 E1.out E3.out).symm,F9.out,B9.out⟩
       case measure=>
        have h7:JG (w8.setCell ⟨w.1.size,7,none⟩ (.int .i64 ((j:Int)+1))) w.1.size 7=j+1:=by have c7:(w8.setCell ⟨w.1.size,7,none⟩ (.int .i64 ((j:Int)+1))).cell? ⟨w.1.size,7,none⟩=some (.int .i64 ((j+1:Nat):Int)):=B9.out.cell 7;unfold JG;rw [c7];simp
        rw [HIA.out,h7]
        omega
      ·skip
       have o1:=SJ.out.g.at_.o1
       have eD:p1.A.da=some ⟨p1.g1,0,none⟩:=o1.addr (by show 0<r1.dk.n;omega)
       obtain ⟨cc,rr,hat⟩:=o1.row (by show 0<r1.dk.n;omega)
       have e2Z:(j:Int)<(r1.dk.n:Int):=by omega
       have hs0:wr.cell? ⟨p1.g1,j*2,none⟩=some (.int .i64 (r1.dk.s j).bal):=by rw [rr.cell _ (by show j*2<r1.dk.n*2;omega),(hat j e2).1]
       have hgl:=rr.lt
       clear o1 rr hat
       have c8:wr.cell? ⟨w.1.size,8,none⟩=some (.slice (some ⟨p1.g1,0,none⟩) r1.dk.n p1.A.dc):=by rw [←eD];exact BX.out.cell 8
       clear eD
       have STP:=hid (show Jh r1.dk m.bal m.kn (r1.dk.n-j) j=j from Jc _ _ _ _ _ (fun h=>e3 h.2))
       obtain ⟨bl,hbl⟩:∃ bl,(r1.dk.s j).bal=bl:=⟨_,rfl⟩
       rw [hbl] at hs0 e3
       have e3z:(bl==m.bal)=false:=by simp;exact e3
       clear hbl e3
       go_wp2
       have sS7:=Zc (W1:=wr) (p:=⟨w.1.size,7,none⟩) (v:=.int .i64 (j:Int)) (BX.out.cell 7) BX.out.lt
       have sS8:=Zc (W1:=wr) (p:=⟨w.1.size,8,none⟩) (v:=.slice (some ⟨p1.g1,0,none⟩) r1.dk.n p1.A.dc) c8 BX.out.lt
       have sM5:=Zc (W1:=wr) (p:=⟨(w.1.size+1),5,none⟩) (v:=.int .i64 m.kn) (MJ.out.cell 5) MJ.out.lt
       have sM3:=Zc (W1:=wr) (p:=⟨(w.1.size+1),3,none⟩) (v:=.int .i64 m.bal) (MJ.out.cell 3) MJ.out.lt
       have sgj:=Zc (W1:=wr) (p:=⟨p1.g1,(j*2),none⟩) (v:=.int .i64 bl) hs0 hgl
       have hne:Nonempty (GW wr):=⟨⟨_,br _ _⟩⟩
       refine Zf (by kernel_rfl) (by kernel_rfl) ?_
       repeat (go_big_quiet_step (fail))
       refine wpQuiet_nil ?_
       rintro w8 ⟨u,hu⟩
       have hw8:Below wr.1.size wr w8:=hu▸u.prop
       clear hu u hne sS7 sS8 sM5 sM3 sgj
       clear e3z c8 hs0
       exact apHd1
     ·skip
      have c8:wr.cell? ⟨w.1.size,8,none⟩=some (.slice p1.A.da r1.dk.n p1.A.dc):=BX.out.cell 8
      have STP:=hid (show Jh r1.dk m.bal m.kn (r1.dk.n-j) j=j from beatA_end _ _ _ _ e2)
      have e2z:¬((j:Int)<(r1.dk.n:Int)):=by omega
      go_wp2
      have sS7:=Zc (W1:=wr) (p:=⟨w.1.size,7,none⟩) (v:=.int .i64 (j:Int)) (BX.out.cell 7) BX.out.lt
      have sS8:=Zc (W1:=wr) (p:=⟨w.1.size,8,none⟩) (v:=.slice p1.A.da r1.dk.n p1.A.dc) c8 BX.out.lt
      have sM5:=Zc (W1:=wr) (p:=⟨(w.1.size+1),5,none⟩) (v:=.int .i64 m.kn) (MJ.out.cell 5) MJ.out.lt
      have sM3:=Zc (W1:=wr) (p:=⟨(w.1.size+1),3,none⟩) (v:=.int .i64 m.bal) (MJ.out.cell 3) MJ.out.lt
      have hne:Nonempty (GW wr):=⟨⟨_,br _ _⟩⟩
      refine Zf (by kernel_rfl) (by kernel_rfl) ?_
      repeat (go_big_quiet_step (fail))
      refine wpQuiet_nil ?_
      rintro w8 ⟨u,hu⟩
      have hw8:Below wr.1.size wr w8:=hu▸u.prop
      clear hu u hne sS7 sS8 sM5 sM3
      clear c8 e2z
      exact apHd1
    ·skip
     have NE1:=hid (show ¬((j:Int)<m.kn) from e1)
     have c8:wr.cell? ⟨w.1.size,8,none⟩=some (.slice p1.A.da r1.dk.n p1.A.dc):=BX.out.cell 8
     have STP:=hid (show Jh r1.dk m.bal m.kn (r1.dk.n-j) j=j from Jc _ _ _ _ _ (fun h=>e1 h.1))
     have e1z:decide ((j:Int)<m.kn)=false:=decide_eq_false e1
     go_wp2
     have sS7:=Zc (W1:=wr) (p:=⟨w.1.size,7,none⟩) (v:=.int .i64 (j:Int)) (BX.out.cell 7) BX.out.lt
     have sS8:=Zc (W1:=wr) (p:=⟨w.1.size,8,none⟩) (v:=.slice p1.A.da r1.dk.n p1.A.dc) c8 BX.out.lt
     have sM5:=Zc (W1:=wr) (p:=⟨(w.1.size+1),5,none⟩) (v:=.int .i64 m.kn) (MJ.out.cell 5) MJ.out.lt
     have sM3:=Zc (W1:=wr) (p:=⟨(w.1.size+1),3,none⟩) (v:=.int .i64 m.bal) (MJ.out.cell 3) MJ.out.lt
     have hne:Nonempty (GW wr):=⟨⟨_,br _ _⟩⟩
     refine Zf (by kernel_rfl) (by kernel_rfl) ?_
     repeat (go_big_quiet_step (fail))
     refine wpQuiet_nil ?_
     rintro w8 ⟨u,hu⟩
     have hw8:Below wr.1.size wr w8:=hu▸u.prop
     clear hu u hne sS7 sS8 sM5 sM3
     clear c8
     have S8:=hid (SJ.out.grow hw8)
     have B8:=hid (BX.out.below hw8 BX.out.lt)
     have M8:=hid (MJ.out.below hw8 MJ.out.lt)
     have Z8:=hid (ZJ.out.below hw8 ZJ.out.lt)
     clear hw8
     obtain ⟨q0,q1,q2,q3,q4,q5,q6,q7,q8,q9,q10,q11,q12,q13,q14,q15,q16,q17⟩:=Ze B8.out.cell
     clear q0 q1 q2 q3 q4 q5 q6 q8 q9 q10 q11 q12 q13 q14 q15 q16 q17
     have m1:w8.cell? ⟨(w.1.size+1),1,none⟩=some (.int .i64 m.from_):=M8.out.cell 1
     have m3:w8.cell? ⟨(w.1.size+1),3,none⟩=some (.int .i64 m.bal):=M8.out.cell 3
     have m5:w8.cell? ⟨(w.1.size+1),5,none⟩=some (.int .i64 m.kn):=M8.out.cell 5
     have hB8:=B8.out.lt
     have hM8:=M8.out.lt
     have HEQ:=hid (show O=XO (knR r1 (j:Int)) m from (HQ.out j (HZ.out.trans (HJ.out.symm.trans STP.out))).trans (congrArg (fun x=>XO x m) (if_neg (by show ¬(j:Int)<m.kn;have:=NE1.out;omega))))
     go_wp2
     clear q7 m1 m3 m5 hB8 hM8
     obtain ⟨r2,hr2⟩:∃ r2,(knR r1 (j:Int))=r2:=⟨_,rfl⟩
     have hw2:r2.wn≤1000:=by rw [←hr2];exact hwn1
     have SX:=S8
     have XB:=B8
     have XM:=M8
     have XZ:=Z8
     rw [hr2] at SX XB HEQ
     clear hr2 S8 B8 M8 Z8 SJ BX MJ ZJ
     go_loopw [5] (fun i wr=>∃ k pk,k≤r2.wn∧i=.int .i64 (k:Int)∧SpF w (w.1.size+3) r p wr (YO r2 m k) pk∧Bx wr w.1.size (rcC (YO r2 m k) pk.A)∧Bx wr (w.1.size+1) #[.int .i64 m.kind,.int .i64 m.from_,.int .i64 m.to,.int .i64 m.bal,.int .i64 m.ix,.int .i64 m.kn,.string m.text,.slice ma m.n mc]∧Bx wr (w.1.size+1+1) (rcL 0 0 false).toArray) (fun i _=>r2.wn-(intOf i).toNat)
     case atStart=>exact ⟨0,p1,zle _,rfl,SX.out,XB.out,XM.out,XZ.out⟩
     case round=>
      exact apHd0
end Go.Proofs.YtokkbdlofbdljaaGreat
