import Derived.Test.YtokkbdlofbdljaaGreatGs
import Derived.Test.YtokkbdlofbdljaaGreatHy
import Derived.Test.YtokkbdlofbdljaaGreatYsh
import Derived.Test.YtokkbdlofbdljaaGreatGn
import Derived.Test.YtokkbdlofbdljaaGreatRa
namespace Go.Proofs.YtokkbdlofbdljaaGreat
open Go.RowKit
set_option maxHeartbeats 8000000
theorem UQ (r:Rc) (bs:Nat→Sl) (a:Nat):∀ k,(YS r bs a k).bal=r.bal
 | 0=>rfl
 | k+1=>UQ r bs a k
theorem RcG.calmL {w:World} {r:Rc} {p:RcP} (h:RcG w r p) (ya ba aa:Option Addr):RcG w (leadS r) (Yo p ya ba aa 0 0 0):=by
 have g:=h.calm ya ba aa 0 0 0
 exact ⟨⟨g.at_.o0,g.at_.o1,g.at_.o2,g.at_.o3,g.at_.o4,g.at_.o5,g.at_.o6,g.at_.lt,g.at_.ap⟩,⟨g.rm.dl,g.rm.d0,g.rm.dr,g.rm.hl,g.rm.h0,g.rm.hr⟩⟩
set_option maxRecDepth 100000 in
theorem Kr (r:Rc) (p:RcP) (x:Int) (mn:Nat) (ms:Nat→Sl) (mb mo mc:Nat) (w:World) (hg:RcG w r p) (hcp:Gq r p) (hyn:r.yn≤999) (hbn:r.bn≤60) (hk0:0≤r.dk.kn) (hmn:mn≤60) (hmc:mn≤mc) (hm:SlsIn w 0 w.1.size (some ⟨mb,mo,none⟩) mn ms) :
  Calls Tryz.prog 34 #[rcV r p.A,.int .i64 x,.slice (some ⟨mb,mo,none⟩) mn mc] w (SpR w r p (Je r x mn ms)):=by
 obtain ⟨O,hO⟩:∃ O,Je r x mn ms=O:=⟨_,rfl⟩
 rw [hO]
 have HO:=hid hO
 have HG:=hid hg
 have HM:=hid hm
 have HCP:=hid hcp
 obtain ⟨gb,hgb⟩:=hcp.bs
 have HGB:=hid hgb
 have hAN:(Zy r.yn r.ys x)≤1000:=by unfold Zy;split<;>omega
 have hB0:Below w.1.size w ((w.alloc (.cells (rcC r p.A) 38)).alloc (.cells (rcL 0 0 false).toArray 38)):=(Zb _ _).alloc (by simp) _
 have hN:=Bx.new2 w (rcC r p.A) (rcL 0 0 false).toArray 38 38
 have Q0:=hid hN.1
 have Z0:=hid hN.2
 have SF0:=hid (SpF.new (L:=w.1.size+2) hg hB0 (by omega) (by simp))
 have HB0:=hid hB0
 clear hO hg hm hcp hgb hN hB0
 have mark:Nat:=0
 go_enter Tryz.func34,Tryz.ntmps34
 go_wp2_with (first|((with_reducible show wpList _ _ _ (⟨some 10,_,_,_,_,_⟩::_) _ _);clear mark;go_must ((generalize ((w.alloc (.cells (rcC r p.A) 38)).alloc (.cells (rcL 0 0 false).toArray 38))=W at *);obtain ⟨q0,q1,q2,q3,q4,q5,q6,q7,q8,q9,q10,q11,q12,q13,q14,q15,q16,q17⟩:=Ze Q0.out.cell;have qf:=Q0.out.free;have qlt:=Q0.out.lt;have zlt:=Z0.out.lt;clear q0 q1 q2 q3 q4 q5 q6 q7 q8 q9 q10 q11 q12 q13 q15 q16 q17))|(go_at_call 83;go_must (refine (KE r.yn r.ys p.A.ya p.A.yc p.g4 x W hyn HCP.out.yl (fun h=>Zr SF0.out.g.at_ (j:=4) (by omega) ⟨by omega,rfl⟩) SF0.out.g.at_.o4).mono ?_;rintro e w1 ⟨ad1,cap1,g1,rfl,ho1,hl1,hor1,hb1⟩;have O1:=hid ho1;have OR1:=hid hor1;have B1:=hid hb1;have X1:=hid (Q0.out.below hb1 qlt);clear ho1 hor1 hb1 q14 qf;have c14:w1.cell? ⟨w.1.size,14,none⟩=some (.slice p.A.ya r.yn p.A.yc):=X1.out.cell 14;have qf:=X1.out.free;have hBl1:=X1.out.lt;have c15:w1.cell? ⟨w.1.size,15,none⟩=some (.slice (some ⟨gb,0,none⟩) r.bn p.A.bc):=(X1.out.cell 15).trans (congrArg (fun c=>some (Value.slice c r.bn p.A.bc)) HGB.out))))
 have X2:=hid (X1.out.to (YU X1.out.cell (.slice ad1 (Zy r.yn r.ys x) cap1)))
 have F2:=hid ((FrP.of_below (P:=fun q=>q=w.1.size) B1.out).setCell (p:=⟨w.1.size,14,none⟩) rfl (.slice ad1 (Zy r.yn r.ys x) cap1))
 have hgn:g1≠w.1.size:=fun e=>by
  rcases OR1.out with ⟨h1,h2⟩|h1
  ·exact SF0.out.ne (b:=g1) (by omega) (by omega) ⟨4,by omega,by omega,h1⟩
  ·omega
 have O2:=hid (show IntsOwn (w1.setCell ⟨w.1.size,14,none⟩ (.slice ad1 (Zy r.yn r.ys x) cap1)) g1 (g1+1) ad1 (Zy r.yn r.ys x) (ZJ r.yn r.ys x) from O1.out.frP ((FrP.refl (fun q=>q=w.1.size) w1).setCell (p:=⟨w.1.size,14,none⟩) rfl _) (fun _=>⟨hgn,hl1⟩))
 have hz2:(w1.setCell ⟨w.1.size,14,none⟩ (.slice ad1 (Zy r.yn r.ys x) cap1)).1.size=w1.1.size:=World.size_setCell _ _ _
 obtain ⟨W2,hW2⟩:∃ W2,w1.setCell ⟨w.1.size,14,none⟩ (.slice ad1 (Zy r.yn r.ys x) cap1)=W2:=⟨_,rfl⟩
 rw [hW2] at X2 F2 O2 hz2 ⊢
 clear hW2 c14 c15 qf X1 O1
 have X2:Hid (Bx W2 w.1.size (rcC (XM r (Zy r.yn r.ys x) (ZJ r.yn r.ys x)) (Ui p ad1 cap1 g1).A)):=X2
 have G2:=hid ((SF0.out.g.fr F2.out (fun q hq e=>SF0.out.ne (b:=q) (by omega) (by omega) hq)).yes (cap:=cap1) O2.out (fun _=>by omega) (fun _ j hj h4 hrb=>by
  rcases OR1.out with ⟨h1,h2⟩|h1
  ·exact h4 (SF0.out.g.at_.ap j 4 g1 hj (by omega) hrb ⟨by omega,h1⟩)
  ·have:=Zr SF0.out.g.at_ hj hrb;omega))
 have SF2:=hid (SF0.out.next2 G2.out (F2.out.mono (fun q hq=>Or.inr (by omega))) (fun q hq=>by
  rcases PF hq with h|⟨_,h⟩
  ·exact Or.inl h
  ·rcases OR1.out with ⟨h1,h2⟩|h1
   ·exact Or.inl ⟨4,by omega,by omega,h.trans h1⟩
   ·exact Or.inr (by omega)))
 have Z2:=hid (Z0.out.frP F2.out (by omega))
 have zW:=F2.out.size
 have HMW:=hid (show SlsIn W2 0 W2.1.size (some ⟨mb,mo,none⟩) mn ms from ((HM.out.below HB0.out (lrf _)).below (F2.out.below (B:=w.1.size) (fun q hq e=>by omega) HB0.out.size) (lrf _)).mono (zle _) (by omega))
 have HBW:=hid (show SlsIn W2 0 W2.1.size (some ⟨gb,0,none⟩) r.bn r.bs from HGB.out▸(G2.out.at_.o5.isIn (fun h0=>⟨zle _,Zr G2.out.at_ (j:=5) (by omega) ⟨h0,rfl⟩⟩)))
 have MG:=hid (Ux r.bn mn r.bs ms gb 0 p.A.bc mb mo mc W2 0 W2.1.size (lrf _) (by omega) (by omega) HCP.out.bl hmc HBW.out HMW.out)
 refine MG.out.mono ?_
 rintro e w3 ⟨ad3,cap3,g3,rfl,ho3,hl3,hk3,hb3⟩
 have X3:=hid (X2.out.below hb3 X2.out.lt)
 have c15:w3.cell? ⟨w.1.size,15,none⟩=some (.slice p.A.ba r.bn p.A.bc):=X3.out.cell 15
 have qf:=X3.out.free
 have hBl3:=X3.out.lt
 have X4:=hid (X3.out.to (XI X3.out.cell (.slice ad3 (max r.bn mn) cap3)))
 have FB:=(FrP.refl (fun q=>q=w.1.size) w3).setCell (p:=⟨w.1.size,15,none⟩) rfl (.slice ad3 (max r.bn mn) cap3)
 have F4:=hid ((FrP.of_below (P:=fun q=>q=w.1.size) hb3).setCell (p:=⟨w.1.size,15,none⟩) rfl (.slice ad3 (max r.bn mn) cap3))
 have hz3:=hb3.size
 have hbl2:=X2.out.lt
 have O4:=hid (ho3.frP FB (fun h0=>⟨by omega,hk3 h0⟩))
 have hz4:(w3.setCell ⟨w.1.size,15,none⟩ (.slice ad3 (max r.bn mn) cap3)).1.size=w3.1.size:=World.size_setCell _ _ _
 have G4:=hid ((SF2.out.g.fr F4.out (fun q hq e=>SF2.out.ne (b:=q) (by omega) (by omega) hq)).best (cap:=cap3) O4.out (fun h0=>by have:=hk3 h0;omega) (fun _ j hj h5 hrb=>by have:=Zr SF2.out.g.at_ hj hrb;omega))
 have SF4:=hid (SF2.out.next2 G4.out (F4.out.mono (fun q hq=>Or.inr (by omega))) (fun q hq=>by
  rcases On hq with h|⟨_,h⟩
  ·exact Or.inl h
  ·exact Or.inr (by omega)))
 have Z4:=hid (Z2.out.frP F4.out (by omega))
 have HL3:Hid (max r.bn mn≠0→g3<w3.1.size):=hk3
 have X4:Hid (Bx (w3.setCell ⟨w.1.size,15,none⟩ (.slice ad3 (max r.bn mn) cap3)) w.1.size (rcC (ZU (XM r (Zy r.yn r.ys x) (ZJ r.yn r.ys x)) (max r.bn mn) (mgS r.bn r.bs mn ms)) (YN (Ui p ad1 cap1 g1) ad3 cap3 g3).A)):=X4
 clear ho3 hk3 hb3 FB O2 MG HMW HBW G2 SF0 SF2 F2 Q0 Z0 Z2 HM X3
 have hRl:max r.bn mn≤60:=by omega
 have mark3:Nat:=0
 have mark4:Nat:=0
 by_cases h9:r.of<2*(((Zy r.yn r.ys x):Nat):Int)
 ·have HT:=hid (show O=JF (ZU (XM r (Zy r.yn r.ys x) (ZJ r.yn r.ys x)) (max r.bn mn) (mgS r.bn r.bs mn ms)) from HO.out.symm.trans (if_pos h9))
  have h9n:decide (2*(((Zy r.yn r.ys x):Nat):Int)≤r.of)=false:=decide_eq_false (by omega)
  obtain ⟨a,ha⟩:∃ a:Nat,r.dk.kn=(a:Int):=⟨r.dk.kn.toNat,by omega⟩
  have HA:=hid ha
  clear h9 ha
  go_wp2_with (first|((with_reducible show wpList _ _ _ (⟨some 20,_,_,_,_,_⟩::_) _ _);clear mark3;go_must ((generalize w3.setCell ⟨w.1.size,15,none⟩ (.slice ad3 (max r.bn mn) cap3)=W4 at *);clear c15 qf;obtain ⟨q0,q1,q2,q3,q4,q5,q6,q7,q8,q9,q10,q11,q12,q13,q14,q15,q16,q17⟩:=Ze X4.out.cell;have qf:=X4.out.free;have z4lt:=Z4.out.lt;have x4lt:=X4.out.lt;clear q0 q2 q3 q4 q5 q6 q8 q9 q10 q11 q12 q16 q17))|((with_reducible show wpList _ _ _ (⟨some 32,Op.load 38 _,_,_,_,_⟩::_) _ _);go_must (refine LD38 (rcC (ZU (XM r (Zy r.yn r.ys x) (ZJ r.yn r.ys x)) (max r.bn mn) (mgS r.bn r.bs mn ms)) (YN (Ui p ad1 cap1 g1) ad3 cap3 g3).A).toList X4.out.cell ?_))|(go_at_call 38;go_must (refine (Xn (ZU (XM r (Zy r.yn r.ys x) (ZJ r.yn r.ys x)) (max r.bn mn) (mgS r.bn r.bs mn ms)) (YN (Ui p ad1 cap1 g1) ad3 cap3 g3).A W4).mono ?_;rintro e w5 ⟨ya,ba,aa,rfl,hb5⟩;have B5:=hid hb5;have X5:=hid (X4.out.below hb5 X4.out.lt);have Z5:=hid (Z4.out.below hb5 Z4.out.lt);have s5:=hb5.size;clear hb5 q1 q7 q13 q14 q15 qf))|((with_reducible show wpList _ _ _ (⟨none,Op.store 38 _ _,_,_,_,_⟩::_) _ _);go_must (refine Zd rfl 38 _ _ rfl w.1.size (rcC (ZD (ZU (XM r (Zy r.yn r.ys x) (ZJ r.yn r.ys x)) (max r.bn mn) (mgS r.bn r.bs mn ms))) { (YN (Ui p ad1 cap1 g1) ad3 cap3 g3).A with ya:=ya,ba:=ba,aa:=aa,yc:=0,bc:=0,ac:=0 }).toList rfl rfl X5.out rfl Tryz.sz38 (by simp [Value.oneCell']) ?_;intro V1 hr hfr hsv;have HBV1:=hid hr;have HFV1:=hid (FrP.of_fr (P:=fun q=>q=w.1.size) hfr (fun k h1 h2=>by omega));clear hr hfr hsv;obtain ⟨q0,q1,q2,q3,q4,q5,q6,q7,q8,q9,q10,q11,q12,q13,q14,q15,q16,q17⟩:=Ze HBV1.out.cell;rw [HA.out] at q7;have qf:=HBV1.out.free;have qlt1:=HBV1.out.lt;clear q0 q1 q2 q3 q4 q5 q6 q8 q9 q10 q12 q14 q15 q16 q17)))
  have f6:FrP (fun q=>q=w.1.size) w5 ((V1.setCell ⟨w.1.size,11,none⟩ (.bool true)).setCell ⟨w.1.size,13,none⟩ (.int .i64 r.bal)):=(HFV1.out.setCell (p:=⟨w.1.size,11,none⟩) rfl (.bool true)).setCell (p:=⟨w.1.size,13,none⟩) rfl (.int .i64 r.bal)
  have b6a:=HBV1.out.to (Zs HBV1.out.cell (.bool true))
  have X6:=hid (b6a.to (Xx b6a.cell (.int .i64 r.bal)))
  clear b6a
  have X6:Hid (Bx ((V1.setCell ⟨w.1.size,11,none⟩ (.bool true)).setCell ⟨w.1.size,13,none⟩ (.int .i64 r.bal)) w.1.size (rcC (leadS (ZU (XM r (Zy r.yn r.ys x) (ZJ r.yn r.ys x)) (max r.bn mn) (mgS r.bn r.bs mn ms))) (Yo (YN (Ui p ad1 cap1 g1) ad3 cap3 g3) ya ba aa 0 0 0).A)):=X6
  have Z6:=hid (Z5.out.frP f6 (by omega))
  have F6:=hid f6
  have hz6:=f6.size
  clear q7 q11 q13 qf HBV1 HFV1 f6
  obtain ⟨W6,hW6⟩:∃ W6,(V1.setCell ⟨w.1.size,11,none⟩ (.bool true)).setCell ⟨w.1.size,13,none⟩ (.int .i64 r.bal)=W6:=⟨_,rfl⟩
  rw [hW6] at X6 Z6 F6 hz6 ⊢
  clear hW6
  have SF5:=hid (SF4.out.grow B5.out)
  have SF5b:=hid (SF5.out.box F6.out (lrf _) (by omega))
  have SF6:=hid (SF5b.out.re (r1:=leadS (ZU (XM r (Zy r.yn r.ys x) (ZJ r.yn r.ys x)) (max r.bn mn) (mgS r.bn r.bs mn ms))) (p1:=Yo (YN (Ui p ad1 cap1 g1) ad3 cap3 g3) ya ba aa 0 0 0) (SF5b.out.g.calmL ya ba aa) (fun q hq=>Om (r:=(ZU (XM r (Zy r.yn r.ys x) (ZJ r.yn r.ys x)) (max r.bn mn) (mgS r.bn r.bs mn ms))) hq))
  have hg3S:max r.bn mn≠0→g3≠w.1.size:=fun h0 e=>by omega
  have O6:=hid ((O4.out.grow B5.out).frP F6.out (fun h0=>⟨hg3S h0,by have:=HL3.out h0;omega⟩))
  have N6:=hid (show max r.bn mn≠0→¬rbs (Yo (YN (Ui p ad1 cap1 g1) ad3 cap3 g3) ya ba aa 0 0 0) (leadS (ZU (XM r (Zy r.yn r.ys x) (ZJ r.yn r.ys x)) (max r.bn mn) (mgS r.bn r.bs mn ms))) g3∧g3≠w.1.size∧g3<W6.1.size from fun h0=>⟨UG (r:=(ZU (XM r (Zy r.yn r.ys x) (ZJ r.yn r.ys x)) (max r.bn mn) (mgS r.bn r.bs mn ms))) (p:=(YN (Ui p ad1 cap1 g1) ad3 cap3 g3)) SF4.out.g h0,hg3S h0,by have:=HL3.out h0;omega⟩)
  clear SF5 SF5b SF4 O4 B5 F6 X4 X5 Z4 Z5 G4
  have HEQ:=hid (HT.out.trans (show JF (ZU (XM r (Zy r.yn r.ys x) (ZJ r.yn r.ys x)) (max r.bn mn) (mgS r.bn r.bs mn ms))=YS (leadS (ZU (XM r (Zy r.yn r.ys x) (ZJ r.yn r.ys x)) (max r.bn mn) (mgS r.bn r.bs mn ms))) (mgS r.bn r.bs mn ms) a (max r.bn mn-a) from by unfold JF;rw [show (ZU (XM r (Zy r.yn r.ys x) (ZJ r.yn r.ys x)) (max r.bn mn) (mgS r.bn r.bs mn ms)).dk.kn.toNat=a by show r.dk.kn.toNat=a;rw [HA.out];simp]))
  clear HT
  have hbal0:(leadS (ZU (XM r (Zy r.yn r.ys x) (ZJ r.yn r.ys x)) (max r.bn mn) (mgS r.bn r.bs mn ms))).bal=r.bal:=rfl
  have HBAL:=hid hbal0
  clear hbal0
  obtain ⟨Nb,hNb⟩:∃ Nb,max r.bn mn=Nb:=⟨_,rfl⟩
  obtain ⟨bs,hbs⟩:∃ bs,mgS r.bn r.bs mn ms=bs:=⟨_,rfl⟩
  obtain ⟨rl,hrl⟩:∃ rl,leadS (ZU (XM r (Zy r.yn r.ys x) (ZJ r.yn r.ys x)) (max r.bn mn) (mgS r.bn r.bs mn ms))=rl:=⟨_,rfl⟩
  obtain ⟨pl,hpl⟩:∃ pl,Yo (YN (Ui p ad1 cap1 g1) ad3 cap3 g3) ya ba aa 0 0 0=pl:=⟨_,rfl⟩
  rw [hrl] at X6 SF6 N6 HEQ HBAL
  rw [hpl] at X6 SF6 N6
  rw [hbs] at O6 HEQ
  rw [hNb] at O6 HEQ hRl N6 ⊢
  clear hNb hbs hrl hpl hl3 HL3 hg3S
  go_wp2
  go_loopw [9] (fun i wr=>∃ k pk,k≤Nb-a∧i=.int .i64 ((a+k:Nat):Int)∧SpF w (w.1.size+2) r p wr (YS rl bs a k) pk∧Bx wr w.1.size (rcC (YS rl bs a k) pk.A)∧Bx wr (w.1.size+1) (rcL 0 0 false).toArray∧SlsAt wr ad3 g3 Nb bs∧(Nb≠0→¬rbs pk (YS rl bs a k) g3∧g3≠w.1.size∧g3<wr.1.size)) (fun i _=>Nb-(intOf i).toNat)
  case atStart=>exact ⟨0,pl,zle _,rfl,SF6.out,X6.out,Z6.out,O6.out,N6.out⟩
  case round=>
   obtain ⟨k,pk,hkl,rfl,sk,bk,zk,ok,nk⟩:=hrel
   have SK:=hid sk
   have BK:=hid bk
   have ZK:=hid zk
   have OK:=hid ok
   have NK:=hid nk
   have HBK:=hid (UQ rl bs a k)
   clear sk bk zk ok nk SF6 X6 Z6 O6 N6
   obtain ⟨rk,hrk⟩:∃ rk,YS rl bs a k=rk:=⟨_,rfl⟩
   have HRK:=hid hrk
   rw [hrk] at SK BK NK HBK
   clear hrk
   by_cases hkn:k<Nb-a
   ·have hin:a+k<Nb:=by omega
    have eA:=OK.out.addr (by omega)
    obtain ⟨cc,rr,hat⟩:=OK.out.row (by omega)
    have hc1:=hid (show wr.cell? ⟨g3,(a+k)*2+1,none⟩=some (.string (bs (a+k)).text) from by rw [rr.cell _ (by omega),(hat (a+k) hin).2])
    have hgl:=rr.lt
    have hinZ:((a+k:Nat):Int)<(Nb:Int):=by omega
    clear rr hat
    subst eA
    go_wp2
    refine Fs _ _ _ _ _ _ _ _ _ _ _ _ _ _ _ _ _ _ _ _ _ _ _ _ _ _ _ _ _ _ _ _ _ _ _ _ _ _ _ _ _ _ _ _ _ _ _ _ _ _ _ _ _ _ w.1.size g3 (a+k) Nb cap3 r.bal (bs (a+k)).text rk pk (JA rk (a+k) ⟨r.bal,(bs (a+k)).text⟩) wr (fun p' Y=>RcG Y (JA rk (a+k) ⟨r.bal,(bs (a+k)).text⟩) p'∧FrP (rbs pk rk) wr Y∧(∀ q,rbs p' (JA rk (a+k) ⟨r.bal,(bs (a+k)).text⟩) q→rbs pk rk q∨wr.1.size≤q)) BK.out hgl hin (by omega) hc1.out (fun X hb=>(E5 rk pk (a+k) ⟨r.bal,(bs (a+k)).text⟩ (by omega) X (SK.out.g.grow hb)).mono fun e w' ⟨p',he,h1,h2,h3⟩=>⟨p',he,h1,(FrP.of_below (P:=rbs pk rk) hb).trans h2,fun q hq=>by rcases h3 q hq with h|h;exact Or.inl h;exact Or.inr (ltr hb.size h)⟩) (fun p' Y hr=>⟨_,SK.out.keep hr.2.1 BK.out (lrf _) (by omega),rfl⟩) _ ?_
    rintro t9 v9 wz ⟨p',Y,⟨g1,f1,s1⟩,bz,fz,_⟩
    have fz2:FrP (fun q=>q=w.1.size) Y wz:=FrP.of_fr fz (fun k h1 h2=>by omega)
    have SK2:=hid ((SK.out.next g1 f1 s1).box fz2 (lrf _) (by omega))
    have BK2:=hid bz
    have ZK2:=hid ((SK.out.keep f1 ZK.out (by omega) (by omega)).frP fz2 (by omega))
    have n9:=NK.out (by omega)
    have zY:=f1.size
    have zZ:=fz2.size
    have OK2:=hid ((OK.out.frP f1 (fun h0=>⟨n9.1,n9.2.2⟩)).frP fz2 (fun h0=>⟨n9.2.1,by omega⟩))
    have NK2:=hid (show Nb≠0→¬rbs p' (JA rk (a+k) ⟨r.bal,(bs (a+k)).text⟩) g3∧g3≠w.1.size∧g3<wz.1.size from fun h0=>⟨fun e=>by
     rcases s1 g3 e with h|h
     ·exact n9.1 h
     ·omega,n9.2.1,by omega⟩)
    clear g1 f1 s1 bz fz fz2 SK BK ZK OK NK hc1 n9
    go_wp2
    go_roundw
    case rel=>
     have e1:=HRK.out
     subst e1
     have e2:YS rl bs a (k+1)=JA (YS rl bs a k) (a+k) ⟨r.bal,(bs (a+k)).text⟩:=by
      show JA (YS rl bs a k) (a+k) ⟨(YS rl bs a k).bal,(bs (a+k)).text⟩=_
      rw [HBK.out,HBAL.out]
     exact ⟨k+1,p',by omega,by go_num,by rw [e2];exact SK2.out,by rw [e2];exact BK2.out,ZK2.out,OK2.out,by rw [e2];exact NK2.out⟩
    case measure=>simp [intOf];omega
   ·have hke:k=Nb-a:=by omega
    have HKE:=hid hke
    have hinZ:¬(((a+k:Nat):Int)<(Nb:Int)):=by omega
    clear hke
    go_wp2_with (first|((with_reducible show wpList _ _ _ (⟨some 57,Op.load 38 _,_,_,_,_⟩::_) _ _);go_must (refine LD38 (rcC rk pk.A).toList BK.out.cell ?_))|((with_reducible show wpList _ _ _ (⟨none,Op.store 38 _ _,_,_,_,_⟩::_) _ _);go_must (refine Zd rfl 38 _ _ rfl (w.1.size+1) (rcC rk pk.A).toList rfl rfl ZK.out rfl Tryz.sz38 (by simp [Value.oneCell']) ?_;intro Vz hr hfr hsv;have HBVz:=hid hr;have HFVz:=hid (FrP.of_fr (P:=fun q=>q=(w.1.size+1)) hfr (fun k h1 h2=>by omega));clear hr hfr hsv)))
    refine RZ (rcC rk pk.A).toList HBVz.out.cell ?_
    have e9:=HKE.out
    have e8:=HRK.out
    subst e9
    subst e8
    rw [HEQ.out]
    exact (SK.out.box HFVz.out (by omega) (by omega)).done
 ·have HT:=hid (show O=(ZU (XM r (Zy r.yn r.ys x) (ZJ r.yn r.ys x)) (max r.bn mn) (mgS r.bn r.bs mn ms)) from HO.out.symm.trans (if_neg h9))
  have h9y:decide (2*(((Zy r.yn r.ys x):Nat):Int)≤r.of)=true:=decide_eq_true (by omega)
  clear h9
  go_wp2_with (first|((with_reducible show wpList _ _ _ (⟨some 20,_,_,_,_,_⟩::_) _ _);clear mark3;go_must ((generalize w3.setCell ⟨w.1.size,15,none⟩ (.slice ad3 (max r.bn mn) cap3)=W4 at *);clear c15 qf;obtain ⟨q0,q1,q2,q3,q4,q5,q6,q7,q8,q9,q10,q11,q12,q13,q14,q15,q16,q17⟩:=Ze X4.out.cell;have qf:=X4.out.free;have z4lt:=Z4.out.lt;have x4lt:=X4.out.lt;clear q0 q2 q3 q4 q5 q6 q8 q9 q10 q11 q12 q16 q17))|((with_reducible show wpList _ _ _ (⟨some 27,Op.load 38 _,_,_,_,_⟩::_) _ _);go_must (refine LD38 (rcC (ZU (XM r (Zy r.yn r.ys x) (ZJ r.yn r.ys x)) (max r.bn mn) (mgS r.bn r.bs mn ms)) (YN (Ui p ad1 cap1 g1) ad3 cap3 g3).A).toList X4.out.cell ?_))|((with_reducible show wpList _ _ _ (⟨none,Op.store 38 _ _,_,_,_,_⟩::_) _ _);go_must (refine Zd rfl 38 _ _ rfl (w.1.size+1) (rcC (ZU (XM r (Zy r.yn r.ys x) (ZJ r.yn r.ys x)) (max r.bn mn) (mgS r.bn r.bs mn ms)) (YN (Ui p ad1 cap1 g1) ad3 cap3 g3).A).toList rfl rfl Z4.out rfl Tryz.sz38 (by simp [Value.oneCell']) ?_;intro Vz hr hfr hsv;have HBVz:=hid hr;have HFVz:=hid (FrP.of_fr (P:=fun q=>q=(w.1.size+1)) hfr (fun k h1 h2=>by omega));clear hr hfr hsv)))
  refine RZ (rcC (ZU (XM r (Zy r.yn r.ys x) (ZJ r.yn r.ys x)) (max r.bn mn) (mgS r.bn r.bs mn ms)) (YN (Ui p ad1 cap1 g1) ad3 cap3 g3).A).toList HBVz.out.cell ?_
  rw [HT.out]
  exact (SF4.out.box HFVz.out (by omega) (by omega)).done
end Go.Proofs.YtokkbdlofbdljaaGreat
