import Derived.Test.YtokkbdlofbdljaaGreatEe
namespace Go.Proofs.YtokkbdlofbdljaaGreat
open Go.RowKit
set_option maxHeartbeats 8000000
abbrev ZD (r:Rc):Rc:=⟨r.num,r.of,r.up,r.sf,r.dk,r.hn,r.hs,r.wn,r.ws,false,false,0,0,fun _=>0,0,fun _=>⟨0,⟨#[]⟩⟩,0,fun _=>⟨0,0,fun _=>0⟩,r.hd⟩
abbrev Yo (p:RcP) (ya ba aa:Option Addr) (yc bc ac:Nat):RcP:={ p with A:={ p.A with ya:=ya,ba:=ba,aa:=aa,yc:=yc,bc:=bc,ac:=ac } }
theorem KU {p:RcP} {r:Rc} {ya ba aa:Option Addr} {yc bc ac j k:Nat} (hj:j<7) (h:rb (Yo p ya ba aa yc bc ac) (ZD r) j k):rb p r j k:=by
 rcases (show j=0∨j=1∨j=2∨j=3∨j=4∨j=5∨j=6 by omega) with rfl|rfl|rfl|rfl|rfl|rfl|rfl
 ·exact h
 ·exact h
 ·exact h
 ·exact h
 ·exact absurd rfl h.1
 ·exact absurd rfl h.1
 ·rcases h with ⟨h,_⟩|⟨i,h,_⟩<;>exact absurd h (nlz _)
theorem Xv {p:RcP} {r:Rc} {ya ba aa:Option Addr} {yc bc ac k:Nat} (h:rbs (Yo p ya ba aa yc bc ac) (ZD r) k):rbs p r k:=by
 obtain ⟨j,hj,hk⟩:=h
 exact ⟨j,hj,KU hj hk⟩
theorem RcG.calm {w:World} {r:Rc} {p:RcP} (h:RcG w r p) (ya ba aa:Option Addr) (yc bc ac:Nat):RcG w (ZD r) (Yo p ya ba aa yc bc ac):=
 ⟨⟨h.at_.o0,h.at_.o1,h.at_.o2,h.at_.o3,fun _i hi=>absurd hi (nlz _),⟨fun h=>absurd h (Nat.lt_irrefl _),fun h=>absurd h (Nat.lt_irrefl _)⟩,⟨fun h=>absurd h (Nat.lt_irrefl _),fun h=>absurd h (Nat.lt_irrefl _),fun _i hi=>absurd hi (nlz _),fun _i hi=>absurd hi (nlz _),⟨fun _i hi=>absurd hi (nlz _),fun _i _j hi=>absurd hi (nlz _)⟩⟩,fun k hk=>h.at_.lt k (Xv hk),fun i j k hi hj h1 h2=>h.at_.ap i j k hi hj (KU hi h1) (KU hj h2)⟩,⟨h.rm.dl,h.rm.d0,h.rm.dr,h.rm.hl,h.rm.h0,h.rm.hr⟩⟩
set_option maxRecDepth 100000 in
theorem Uh (r:Rc) (A:RcA) (B:Nat) (w:World) (hbx:Bx w B (rcC r A)) :
  Calls Tryz.prog 147 #[.pointer (some ⟨B,0,none⟩)] w fun e w'=>e=.returned (.tuple #[])∧Bx w' B (rcC (ZD r) { A with ya:=none,ba:=none,aa:=none,yc:=0,bc:=0,ac:=0 })∧FrP (fun q=>q=B) w w':=by
 obtain ⟨q0,q1,q2,q3,q4,q5,q6,q7,q8,q9,q10,q11,q12,q13,q14,q15,q16,q17⟩:=Ze hbx.cell
 have qf:=hbx.free
 have HR:=hid (((((((((((((hbx).to (Zs (hbx).cell (.bool false)))).to (ZN (((hbx).to (Zs (hbx).cell (.bool false)))).cell (.bool false)))).to (Xx (((((hbx).to (Zs (hbx).cell (.bool false)))).to (ZN (((hbx).to (Zs (hbx).cell (.bool false)))).cell (.bool false)))).cell (.int .i64 0)))).to (YU (((((((hbx).to (Zs (hbx).cell (.bool false)))).to (ZN (((hbx).to (Zs (hbx).cell (.bool false)))).cell (.bool false)))).to (Xx (((((hbx).to (Zs (hbx).cell (.bool false)))).to (ZN (((hbx).to (Zs (hbx).cell (.bool false)))).cell (.bool false)))).cell (.int .i64 0)))).cell (.slice none 0 0)))).to (XI (((((((((hbx).to (Zs (hbx).cell (.bool false)))).to (ZN (((hbx).to (Zs (hbx).cell (.bool false)))).cell (.bool false)))).to (Xx (((((hbx).to (Zs (hbx).cell (.bool false)))).to (ZN (((hbx).to (Zs (hbx).cell (.bool false)))).cell (.bool false)))).cell (.int .i64 0)))).to (YU (((((((hbx).to (Zs (hbx).cell (.bool false)))).to (ZN (((hbx).to (Zs (hbx).cell (.bool false)))).cell (.bool false)))).to (Xx (((((hbx).to (Zs (hbx).cell (.bool false)))).to (ZN (((hbx).to (Zs (hbx).cell (.bool false)))).cell (.bool false)))).cell (.int .i64 0)))).cell (.slice none 0 0)))).cell (.slice none 0 0)))).to (JM (((((((((((hbx).to (Zs (hbx).cell (.bool false)))).to (ZN (((hbx).to (Zs (hbx).cell (.bool false)))).cell (.bool false)))).to (Xx (((((hbx).to (Zs (hbx).cell (.bool false)))).to (ZN (((hbx).to (Zs (hbx).cell (.bool false)))).cell (.bool false)))).cell (.int .i64 0)))).to (YU (((((((hbx).to (Zs (hbx).cell (.bool false)))).to (ZN (((hbx).to (Zs (hbx).cell (.bool false)))).cell (.bool false)))).to (Xx (((((hbx).to (Zs (hbx).cell (.bool false)))).to (ZN (((hbx).to (Zs (hbx).cell (.bool false)))).cell (.bool false)))).cell (.int .i64 0)))).cell (.slice none 0 0)))).to (XI (((((((((hbx).to (Zs (hbx).cell (.bool false)))).to (ZN (((hbx).to (Zs (hbx).cell (.bool false)))).cell (.bool false)))).to (Xx (((((hbx).to (Zs (hbx).cell (.bool false)))).to (ZN (((hbx).to (Zs (hbx).cell (.bool false)))).cell (.bool false)))).cell (.int .i64 0)))).to (YU (((((((hbx).to (Zs (hbx).cell (.bool false)))).to (ZN (((hbx).to (Zs (hbx).cell (.bool false)))).cell (.bool false)))).to (Xx (((((hbx).to (Zs (hbx).cell (.bool false)))).to (ZN (((hbx).to (Zs (hbx).cell (.bool false)))).cell (.bool false)))).cell (.int .i64 0)))).cell (.slice none 0 0)))).cell (.slice none 0 0)))).cell (.slice none 0 0))))
 have HFR:=hid (((((((FrP.refl (fun q=>q=B) w).setCell (p:=⟨B,11,none⟩) rfl (.bool false)).setCell (p:=⟨B,12,none⟩) rfl (.bool false)).setCell (p:=⟨B,13,none⟩) rfl (.int .i64 0)).setCell (p:=⟨B,14,none⟩) rfl (.slice none 0 0)).setCell (p:=⟨B,15,none⟩) rfl (.slice none 0 0)).setCell (p:=⟨B,16,none⟩) rfl (.slice none 0 0))
 clear hbx q0 q1 q2 q3 q4 q5 q6 q7 q8 q9 q10 q17
 go_enter Tryz.func147,Tryz.ntmps147
 go_wp2
 exact bodyPost_end (results_none rfl _ _ _) rfl ⟨rfl,HR.out,HFR.out⟩
set_option maxRecDepth 100000 in
theorem Ek (r:Rc) (A:RcA) (w:World) (Q:Ending→World→Prop) (hQ:∀ g1 g2 g3 V,Below w.1.size w V→Q (.returned (.agg #[.int .i64 r.num,.int .i64 r.of,.bool r.up,.int .i64 r.sf.pr,.int .i64 r.sf.kn,.slice A.sa r.sf.n A.sc,.int .i64 r.dk.pr,.int .i64 r.dk.kn,.slice A.da r.dk.n A.dc,.slice A.ha r.hn A.hc,.slice A.wa r.wn A.wc,.bool false,.bool false,.int .i64 0,.slice (some ⟨g1,0,none⟩) 0 0,.slice (some ⟨g2,0,none⟩) 0 0,.slice (some ⟨g3,0,none⟩) 0 0,.int .i64 r.hd])) V) :
  Calls Tryz.prog 38 #[rcV r A] w Q:=by
 have HQ:=hid hQ
 clear hQ
 have mark:Nat:=0
 have k1:Nat:=0
 have k2:Nat:=0
 have k3:Nat:=0
 have k4:Nat:=0
 go_enter Tryz.func38,Tryz.ntmps38
 go_wp2_with (first|((with_reducible show wpList _ _ _ (⟨some 3,_,_,_,_,_⟩::_) _ _);clear mark;have Q0:=hid (Bx.new2 w (rcC r A) (rcL 0 0 false).toArray 38 38).1;have Z0:=hid (Bx.new2 w (rcC r A) (rcL 0 0 false).toArray 38 38).2;have hB0:Below w.1.size w ((w.alloc (.cells (rcC r A) 38)).alloc (.cells (rcL 0 0 false).toArray 38)):=(Zb _ _).alloc (by simp) _;(generalize (w.alloc (.cells (rcC r A) 38)).alloc (.cells (rcL 0 0 false).toArray 38)=W at *);obtain ⟨q0,q1,q2,q3,q4,q5,q6,q7,q8,q9,q10,q11,q12,q13,q14,q15,q16,q17⟩:=Ze Q0.out.cell;have qf:=Q0.out.free;have qlt:=Q0.out.lt;clear q0 q1 q2 q3 q4 q5 q6 q7 q8 q9 q10 q17)|((with_reducible show wpList _ _ _ (⟨some 6,_,_,_,_,_⟩::_) _ _);clear k1;go_must (have Q1:Hid (Bx (((W.setCell ⟨w.1.size,11,none⟩ (.bool false)).setCell ⟨w.1.size,12,none⟩ (.bool false)).setCell ⟨w.1.size,13,none⟩ (.int .i64 0)) w.1.size #[.int .i64 r.num,.int .i64 r.of,.bool r.up,.int .i64 r.sf.pr,.int .i64 r.sf.kn,.slice A.sa r.sf.n A.sc,.int .i64 r.dk.pr,.int .i64 r.dk.kn,.slice A.da r.dk.n A.dc,.slice A.ha r.hn A.hc,.slice A.wa r.wn A.wc,.bool false,.bool false,.int .i64 0,.slice A.ya r.yn A.yc,.slice A.ba r.bn A.bc,.slice A.aa r.an A.ac,.int .i64 r.hd]):=((((((Q0.out).to (Zs (Q0.out).cell (.bool false)))).to (ZN (((Q0.out).to (Zs (Q0.out).cell (.bool false)))).cell (.bool false)))).to (Xx (((((Q0.out).to (Zs (Q0.out).cell (.bool false)))).to (ZN (((Q0.out).to (Zs (Q0.out).cell (.bool false)))).cell (.bool false)))).cell (.int .i64 0)));have f1:=((((FrP.refl (fun q=>q=w.1.size) W).setCell (p:=⟨w.1.size,11,none⟩) rfl (.bool false)).setCell (p:=⟨w.1.size,12,none⟩) rfl (.bool false)).setCell (p:=⟨w.1.size,13,none⟩) rfl (.int .i64 0));have Z1:=hid (Z0.out.frP f1 (by omega));have hB1:Below w.1.size w (((W.setCell ⟨w.1.size,11,none⟩ (.bool false)).setCell ⟨w.1.size,12,none⟩ (.bool false)).setCell ⟨w.1.size,13,none⟩ (.int .i64 0)):=hB0.trans (f1.below (B:=w.1.size) (fun k hk e=>by omega) hB0.size);(generalize (((W.setCell ⟨w.1.size,11,none⟩ (.bool false)).setCell ⟨w.1.size,12,none⟩ (.bool false)).setCell ⟨w.1.size,13,none⟩ (.int .i64 0))=U1 at *);clear q11 q12 q13 q14 q15 q16 qf qlt Q0 Z0 f1 hB0;obtain ⟨q0,q1,q2,q3,q4,q5,q6,q7,q8,q9,q10,q11,q12,q13,q14,q15,q16,q17⟩:=Ze Q1.out.cell;have qf:=Q1.out.free;have qlt:=Q1.out.lt;clear q0 q1 q2 q3 q4 q5 q6 q7 q8 q9 q10 q17))|((with_reducible show wpList _ _ _ (⟨some 8,_,_,_,_,_⟩::_) _ _);clear k2;go_must (obtain ⟨g1,hg1⟩:∃ g,U1.1.size=g:=⟨_,rfl⟩;have b2:=Q1.out.to (YU Q1.out.cell (.slice (some ⟨U1.1.size,0,none⟩) 0 0));have Q2:Hid (Bx ((U1.setCell ⟨w.1.size,14,none⟩ (.slice (some ⟨U1.1.size,0,none⟩) 0 0)).alloc (.cells #[] 3)) w.1.size #[.int .i64 r.num,.int .i64 r.of,.bool r.up,.int .i64 r.sf.pr,.int .i64 r.sf.kn,.slice A.sa r.sf.n A.sc,.int .i64 r.dk.pr,.int .i64 r.dk.kn,.slice A.da r.dk.n A.dc,.slice A.ha r.hn A.hc,.slice A.wa r.wn A.wc,.bool false,.bool false,.int .i64 0,.slice (some ⟨U1.1.size,0,none⟩) 0 0,.slice A.ba r.bn A.bc,.slice A.aa r.an A.ac,.int .i64 r.hd]):=b2.below (Zb (U1.setCell ⟨w.1.size,14,none⟩ (.slice (some ⟨U1.1.size,0,none⟩) 0 0)) (.cells #[] 3)) b2.lt;have f2:=((FrP.refl (fun q=>q=w.1.size) U1).setCell (p:=⟨w.1.size,14,none⟩) rfl (.slice (some ⟨U1.1.size,0,none⟩) 0 0)).trans (FrP.of_below (P:=fun q=>q=w.1.size) (Zb (U1.setCell ⟨w.1.size,14,none⟩ (.slice (some ⟨U1.1.size,0,none⟩) 0 0)) (.cells #[] 3)));have Z2:=hid (Z1.out.frP f2 (by omega));have hB2:Below w.1.size w ((U1.setCell ⟨w.1.size,14,none⟩ (.slice (some ⟨U1.1.size,0,none⟩) 0 0)).alloc (.cells #[] 3)):=hB1.trans (f2.below (B:=w.1.size) (fun k hk e=>by omega) hB1.size);(generalize ((U1.setCell ⟨w.1.size,14,none⟩ (.slice (some ⟨U1.1.size,0,none⟩) 0 0)).alloc (.cells #[] 3))=U2 at *);(rw [hg1] at Q2);have HG1:=hid hg1;clear q11 q12 q13 q14 q15 q16 qf qlt Q1 Z1 f2 b2 hB1 hg1;obtain ⟨q0,q1,q2,q3,q4,q5,q6,q7,q8,q9,q10,q11,q12,q13,q14,q15,q16,q17⟩:=Ze Q2.out.cell;have qf:=Q2.out.free;have qlt:=Q2.out.lt;clear q0 q1 q2 q3 q4 q5 q6 q7 q8 q9 q10 q17))|((with_reducible show wpList _ _ _ (⟨some 10,_,_,_,_,_⟩::_) _ _);clear k3;go_must (obtain ⟨g2,hg2⟩:∃ g,U2.1.size=g:=⟨_,rfl⟩;have b3:=Q2.out.to (XI Q2.out.cell (.slice (some ⟨U2.1.size,0,none⟩) 0 0));have Q3:Hid (Bx ((U2.setCell ⟨w.1.size,15,none⟩ (.slice (some ⟨U2.1.size,0,none⟩) 0 0)).alloc (.cells #[] 109)) w.1.size #[.int .i64 r.num,.int .i64 r.of,.bool r.up,.int .i64 r.sf.pr,.int .i64 r.sf.kn,.slice A.sa r.sf.n A.sc,.int .i64 r.dk.pr,.int .i64 r.dk.kn,.slice A.da r.dk.n A.dc,.slice A.ha r.hn A.hc,.slice A.wa r.wn A.wc,.bool false,.bool false,.int .i64 0,.slice (some ⟨g1,0,none⟩) 0 0,.slice (some ⟨U2.1.size,0,none⟩) 0 0,.slice A.aa r.an A.ac,.int .i64 r.hd]):=b3.below (Zb (U2.setCell ⟨w.1.size,15,none⟩ (.slice (some ⟨U2.1.size,0,none⟩) 0 0)) (.cells #[] 109)) b3.lt;have f3:=((FrP.refl (fun q=>q=w.1.size) U2).setCell (p:=⟨w.1.size,15,none⟩) rfl (.slice (some ⟨U2.1.size,0,none⟩) 0 0)).trans (FrP.of_below (P:=fun q=>q=w.1.size) (Zb (U2.setCell ⟨w.1.size,15,none⟩ (.slice (some ⟨U2.1.size,0,none⟩) 0 0)) (.cells #[] 109)));have Z3:=hid (Z2.out.frP f3 (by omega));have hB3:Below w.1.size w ((U2.setCell ⟨w.1.size,15,none⟩ (.slice (some ⟨U2.1.size,0,none⟩) 0 0)).alloc (.cells #[] 109)):=hB2.trans (f3.below (B:=w.1.size) (fun k hk e=>by omega) hB2.size);(generalize ((U2.setCell ⟨w.1.size,15,none⟩ (.slice (some ⟨U2.1.size,0,none⟩) 0 0)).alloc (.cells #[] 109))=U3 at *);(rw [hg2] at Q3);have HG2:=hid hg2;clear q11 q12 q13 q14 q15 q16 qf qlt Q2 Z2 f3 b3 hB2 hg2;obtain ⟨q0,q1,q2,q3,q4,q5,q6,q7,q8,q9,q10,q11,q12,q13,q14,q15,q16,q17⟩:=Ze Q3.out.cell;have qf:=Q3.out.free;have qlt:=Q3.out.lt;clear q0 q1 q2 q3 q4 q5 q6 q7 q8 q9 q10 q17))|((with_reducible show wpList _ _ _ (⟨some 12,_,_,_,_,_⟩::_) _ _);clear k4;go_must (obtain ⟨g3,hg3⟩:∃ g,U3.1.size=g:=⟨_,rfl⟩;have b4:=Q3.out.to (JM Q3.out.cell (.slice (some ⟨U3.1.size,0,none⟩) 0 0));have Q4:Hid (Bx ((U3.setCell ⟨w.1.size,16,none⟩ (.slice (some ⟨U3.1.size,0,none⟩) 0 0)).alloc (.cells #[] 108)) w.1.size #[.int .i64 r.num,.int .i64 r.of,.bool r.up,.int .i64 r.sf.pr,.int .i64 r.sf.kn,.slice A.sa r.sf.n A.sc,.int .i64 r.dk.pr,.int .i64 r.dk.kn,.slice A.da r.dk.n A.dc,.slice A.ha r.hn A.hc,.slice A.wa r.wn A.wc,.bool false,.bool false,.int .i64 0,.slice (some ⟨g1,0,none⟩) 0 0,.slice (some ⟨g2,0,none⟩) 0 0,.slice (some ⟨U3.1.size,0,none⟩) 0 0,.int .i64 r.hd]):=b4.below (Zb (U3.setCell ⟨w.1.size,16,none⟩ (.slice (some ⟨U3.1.size,0,none⟩) 0 0)) (.cells #[] 108)) b4.lt;have f4:=((FrP.refl (fun q=>q=w.1.size) U3).setCell (p:=⟨w.1.size,16,none⟩) rfl (.slice (some ⟨U3.1.size,0,none⟩) 0 0)).trans (FrP.of_below (P:=fun q=>q=w.1.size) (Zb (U3.setCell ⟨w.1.size,16,none⟩ (.slice (some ⟨U3.1.size,0,none⟩) 0 0)) (.cells #[] 108)));have Z4:=hid (Z3.out.frP f4 (by omega));have hB4:Below w.1.size w ((U3.setCell ⟨w.1.size,16,none⟩ (.slice (some ⟨U3.1.size,0,none⟩) 0 0)).alloc (.cells #[] 108)):=hB3.trans (f4.below (B:=w.1.size) (fun k hk e=>by omega) hB3.size);(generalize ((U3.setCell ⟨w.1.size,16,none⟩ (.slice (some ⟨U3.1.size,0,none⟩) 0 0)).alloc (.cells #[] 108))=U4 at *);(rw [hg3] at Q4);have HG3:=hid hg3;clear q11 q12 q13 q14 q15 q16 qf qlt Q3 Z3 f4 b4 hB3 hg3;obtain ⟨q0,q1,q2,q3,q4,q5,q6,q7,q8,q9,q10,q11,q12,q13,q14,q15,q16,q17⟩:=Ze Q4.out.cell;have qf:=Q4.out.free;have qlt:=Q4.out.lt;clear q0 q1 q2 q3 q4 q5 q6 q7 q8 q9 q10 q17))|((with_reducible show wpList _ _ _ (⟨some 12,Op.load 38 _,_,_,_,_⟩::_) _ _);refine LD38 [.int .i64 r.num,.int .i64 r.of,.bool r.up,.int .i64 r.sf.pr,.int .i64 r.sf.kn,.slice A.sa r.sf.n A.sc,.int .i64 r.dk.pr,.int .i64 r.dk.kn,.slice A.da r.dk.n A.dc,.slice A.ha r.hn A.hc,.slice A.wa r.wn A.wc,.bool false,.bool false,.int .i64 0,.slice (some ⟨g1,0,none⟩) 0 0,.slice (some ⟨g2,0,none⟩) 0 0,.slice (some ⟨g3,0,none⟩) 0 0,.int .i64 r.hd] Q4.out.cell ?_)|((with_reducible show wpList _ _ _ (⟨none,Op.store 38 _ _,_,_,_,_⟩::_) _ _);refine Zd rfl 38 _ _ rfl (w.1.size+1) [.int .i64 r.num,.int .i64 r.of,.bool r.up,.int .i64 r.sf.pr,.int .i64 r.sf.kn,.slice A.sa r.sf.n A.sc,.int .i64 r.dk.pr,.int .i64 r.dk.kn,.slice A.da r.dk.n A.dc,.slice A.ha r.hn A.hc,.slice A.wa r.wn A.wc,.bool false,.bool false,.int .i64 0,.slice (some ⟨g1,0,none⟩) 0 0,.slice (some ⟨g2,0,none⟩) 0 0,.slice (some ⟨g3,0,none⟩) 0 0,.int .i64 r.hd] rfl rfl Z4.out rfl Tryz.sz38 (by simp [Value.oneCell']) ?_;intro V2 hr hfr hsv;have HBV2:=hid hr;have HFV2:=hid hfr;have HSV2:=hid hsv;clear hr hfr hsv))
 have fv:FrP (fun q=>q=w.1.size+1) U4 V2:=FrP.of_fr HFV2.out (fun k h1 h2=>by omega)
 exact bodyPost_ret (v:=.agg #[.int .i64 r.num,.int .i64 r.of,.bool r.up,.int .i64 r.sf.pr,.int .i64 r.sf.kn,.slice A.sa r.sf.n A.sc,.int .i64 r.dk.pr,.int .i64 r.dk.kn,.slice A.da r.dk.n A.dc,.slice A.ha r.hn A.hc,.slice A.wa r.wn A.wc,.bool false,.bool false,.int .i64 0,.slice (some ⟨g1,0,none⟩) 0 0,.slice (some ⟨g2,0,none⟩) 0 0,.slice (some ⟨g3,0,none⟩) 0 0,.int .i64 r.hd]) (Zv rfl _ _ (w.1.size+1) [.int .i64 r.num,.int .i64 r.of,.bool r.up,.int .i64 r.sf.pr,.int .i64 r.sf.kn,.slice A.sa r.sf.n A.sc,.int .i64 r.dk.pr,.int .i64 r.dk.kn,.slice A.da r.dk.n A.dc,.slice A.ha r.hn A.hc,.slice A.wa r.wn A.wc,.bool false,.bool false,.int .i64 0,.slice (some ⟨g1,0,none⟩) 0 0,.slice (some ⟨g2,0,none⟩) 0 0,.slice (some ⟨g3,0,none⟩) 0 0,.int .i64 r.hd] _ rfl (Holds.range (cs:=[.int .i64 r.num,.int .i64 r.of,.bool r.up,.int .i64 r.sf.pr,.int .i64 r.sf.kn,.slice A.sa r.sf.n A.sc,.int .i64 r.dk.pr,.int .i64 r.dk.kn,.slice A.da r.dk.n A.dc,.slice A.ha r.hn A.hc,.slice A.wa r.wn A.wc,.bool false,.bool false,.int .i64 0,.slice (some ⟨g1,0,none⟩) 0 0,.slice (some ⟨g2,0,none⟩) 0 0,.slice (some ⟨g3,0,none⟩) 0 0,.int .i64 r.hd]) HBV2.out.cell) Tryz.underlying38 rfl Tryz.sz38) rfl (HQ.out _ _ _ _ (hB4.trans (fv.below (B:=w.1.size) (fun k hk e=>by omega) hB4.size)))
theorem Xn (r:Rc) (A:RcA) (w:World) :
  Calls Tryz.prog 38 #[rcV r A] w fun e w'=>∃ ya ba aa,e=.returned (rcV (ZD r) { A with ya:=ya,ba:=ba,aa:=aa,yc:=0,bc:=0,ac:=0 })∧Below w.1.size w w':=
 Ek r A w _ fun _ _ _ _ hb=>⟨_,_,_,rfl,hb⟩
abbrev folA (r:Rc) (P:Int):Rc:=⟨r.num,r.of,r.up,r.sf,⟨P,r.dk.kn,r.dk.n,r.dk.s⟩,r.hn,r.hs,r.wn,r.ws,r.ld,r.tr,r.bal,r.yn,r.ys,r.bn,r.bs,r.an,r.as_,0⟩
def mxI (a b:Int):Int:=if a<b then b else a
def Zl (r:Rc) (b:Int):Rc:=if b=r.bal then folA r (mxI r.dk.pr b) else folA (ZD r) (mxI r.dk.pr b)
def RM (n c:Nat) (Rel:World→World→Prop) (ops:Array Oper) (mk:(Nat→Value)→Array Value) (W:World) (G:Nat→Value→World→Prop) (Fin:Act→World→Prop) (l:Array Bool) (a:Act) (X:World):Prop:=
 l.size=n+1∧(∀ i j,ZV ops i j→l.getD i false=true→l.getD j false=true) ∧
  (l.getD n false=true→(∀ i,i<n+1→l.getD i false=true)∧Fin a X) ∧
  (l.getD n false=false→∃ t:Nat→Value,a=⟨mk t,[]⟩∧Rel W X∧(l.getD c false=false→Below W.1.size W X)∧∀ i,i<n→l.getD i false=true→G i (t i) X)
theorem Ip {P:Program} {id:Nat} {ops:Array Oper} {Q:Exit→Act→World→Prop} {a0:Act} {W:World} (hm:P.follows .mixedOrders=true) (n c:Nat) (hcn:c<n) (Rel:World→World→Prop) (hR:∀ X Y,Below X.1.size X Y→Rel X Y) (hT:∀ X Y Z,Rel X Y→Rel Y Z→Rel X Z)
  (mk:(Nat→Value)→Array Value) (t0:Nat→Value) (G:Nat→Value→World→Prop) (Fin:Act→World→Prop)
  (hn:ops.size=n+1) (hord:((List.range ops.size).all fun i=>match ops[i]? with|some o=>o.after.all (fun e=>decide (e.on<i))|none=>true)=true)
  (hanc:((List.range n).all fun j=>(List.range (n+1)).any fun k=>match ops[k]? with|some o=>decide (j<k)&&o.after.any (fun e=>Region.binds .any e&&e.on==j)|none=>false)=true)
  (st:∀ i v X Y,i<n→G i v X→Below X.1.size X Y→G i v Y)
  (st2:∀ i v X Y,i<n→i≠c→G i v X→Rel X Y→G i v Y)
  (h0:a0=⟨mk t0,[]⟩)
  (sc:∀ (t:Nat→Value) X K,Below W.1.size W X→(∀ j,ZV ops c j→G j (t j) X)→(∀ v Y,G c v Y→Rel X Y→K ⟨mk (updT t c v),[]⟩ Y)→wpOp P ops Q c K ⟨mk t,[]⟩ X)
  (sg:∀ i,i<n→i≠c→∀ (t:Nat→Value) X K,Rel W X→(∀ j,ZV ops i j→G j (t j) X)→(∀ v Y,G i v Y→Below X.1.size X Y→K ⟨mk (updT t i v),[]⟩ Y)→wpOp P ops Q i K ⟨mk t,[]⟩ X)
  (sl:∀ (t:Nat→Value) X K,Rel W X→(∀ j,j<n→G j (t j) X)→(∀ a Y,Fin a Y→K a Y)→wpOp P ops Q n K ⟨mk t,[]⟩ X)
  (hfin:∀ a X,Fin a X→Q .normal a X):(Code.region id ops true).wp P Q a0 W:=by
 have hdep:∀ i j,i<n+1→ZV ops i j→j<i:=by
  rintro i j hi ⟨o,ho,e,he,_,rfl⟩
  have h1:=List.all_eq_true.1 hord i (List.mem_range.2 (by omega))
  rw [ho] at h1
  exact of_decide_eq_true (Array.all_eq_true_iff_forall_mem.1 h1 e he)
 refine Yz hm (RM n c Rel ops mk W G Fin) ?_ ?_ ?_ ?_
 ·have hz:∀ i,(Array.replicate ops.size false).getD i false=false:=fun i=>by simp [Array.getD]
  refine ⟨by simp [hn],fun i j _ h=>?_,fun h=>?_,fun _=>⟨t0,h0,hR _ _ ((br _ _).drew),fun _=>(br _ _).drew,fun i _ h=>?_⟩⟩<;>(rw [hz] at h;cases h)
 ·rintro l a X ⟨hs,_⟩
  rw [hs,hn]
 ·rintro l a X ⟨hs,_,h6,_⟩ hr
  have AL:=Y7 hord (by rw [hs,hn]) hr
  exact hfin a X (h6 (AL n (by omega))).2
 ·rintro l a X i ⟨hs,hcl,h6,hg⟩ hr
  obtain ⟨hu,o,ho,hall⟩:=mem_ready.1 hr
  have di:∀ j,ZV ops i j→l.getD j false=true:=by
   rintro j ⟨o',ho',e,he,hb,rfl⟩
   rw [ho] at ho'
   obtain rfl:o=o':=by simpa using ho'
   exact hall e he hb
  have hi7:i<n+1:=by
   rcases Nat.lt_or_ge i (n+1) with h|h
   ·exact h
   ·rw [Array.getElem?_eq_none (by omega)] at ho
    cases ho
  have hui:l.getD i false=false:=by
   have:l.getD i true=false:=hu
   simpa [Array.getD,hs,hi7] using this
  have l6:l.getD n false=false:=by
   cases h:l.getD n false with
   | false=>rfl
   | true=>rw [(h6 h).1 i hi7] at hui;cases hui
  obtain ⟨t,rfl,hb,hbc,gg⟩:=hg l6
  have kp:∀ j,¬j=i→(l.setIfInBounds i true).getD j false=l.getD j false:=fun j hj=>by rw [Yl (by omega),if_neg hj]
  have ki:(l.setIfInBounds i true).getD i false=true:=by rw [Yl (by omega),if_pos rfl]
  have hs':(l.setIfInBounds i true).size=n+1:=by simp [hs]
  have ku:∀ j,l.getD j false=true→(l.setIfInBounds i true).getD j false=true:=fun j h=>by
   by_cases e:j=i
   ·subst e;exact ki
   ·rw [kp j e];exact h
  have hcl':∀ p j,ZV ops p j→(l.setIfInBounds i true).getD p false=true→(l.setIfInBounds i true).getD j false=true:=fun p j hj h=>by
   by_cases e:p=i
   ·subst e;exact ku j (di j hj)
   ·rw [kp p e] at h;exact ku j (hcl p j hj h)
  by_cases hin:i=n
  ·subst hin
   have al:=fun j hj=>Kn (f:=fun j=>l.getD j false=true) hanc hcl di i j (by omega) hj
   clear hr hu ho h6 hg
   refine sl t X _ hb (fun j hj=>gg j hj (al j hj)) (fun a Y hY=>⟨hs',hcl',fun _=>⟨fun j hj=>?_,hY⟩,fun h=>?_⟩)
   ·by_cases e:j=i
    ·subst e;exact ki
    ·exact ku j (al j (by omega))
   ·rw [ki] at h;cases h
  ·clear hr hu ho h6 hg
   have hno:(l.setIfInBounds i true).getD n false=false:=by rw [kp n (fun e=>hin e.symm)];exact l6
   by_cases hic:i=c
   ·subst hic
    refine sc t X _ (hbc hui) (fun j hj=>gg j (by have:=hdep i j hi7 hj;omega) (di j hj)) (fun v Y hv hY=>⟨hs',hcl',fun h=>?_,fun _=>⟨updT t i v,rfl,hT _ _ _ hb hY,fun h=>?_,fun j j1 h=>?_⟩⟩)
    ·rw [hno] at h;cases h
    ·rw [ki] at h;cases h
    ·by_cases e:j=i
     ·subst e;rw [YA];exact hv
     ·rw [kp j e] at h;rw [ZO e];exact st2 _ _ _ _ j1 e (gg j j1 h) hY
   ·refine sg i (by omega) hic t X _ hb (fun j hj=>gg j (by have:=hdep i j hi7 hj;omega) (di j hj)) (fun v Y hv hY=>⟨hs',hcl',fun h=>?_,fun _=>⟨updT t i v,rfl,hT _ _ _ hb (hR _ _ hY),fun h=>?_,fun j j1 h=>?_⟩⟩)
    ·rw [hno] at h;cases h
    ·rw [kp c (fun e=>hic e.symm)] at h
     have hbx:=hbc h
     exact hbx.trans (hY.mono hbx.size)
    ·by_cases e:j=i
     ·subst e;rw [YA];exact hv
     ·rw [kp j e] at h;rw [ZO e];exact st _ _ _ _ j1 (gg j j1 h) hY
def holdG (B:Nat) (r:Rc) (p:RcP) (m:Ms) (adm:Option Addr) (capm hbm:Nat) (W:World) (i:Nat) (v:Value) (X:World):Prop:=
 match i with
 | 0=>v=.pointer (some ⟨B,0,none⟩)
 | 1=>v=.pointer (some ⟨B,0,none⟩)
 | 2=>v=.pointer (some ⟨B,0,none⟩)
 | 3=>v=.pointer (some ⟨B,9,none⟩)
 | 4=>v=.slice p.A.ha r.hn p.A.hc
 | 5=>v=.agg (msL (msF r m) adm capm).toArray
 | 6=>∃ b2,v=.slice (some ⟨b2,0,none⟩) 1 1∧W.1.size≤b2∧b2<X.1.size∧SrcRow X b2 (b2+1) (some ⟨b2,0,none⟩) (1*8) (msD (msF r m) adm capm)
 | 7=>∃ ad' cap' g',v=.slice ad' (r.hn+1) cap'∧RcG X (Yk r m) (Yn p r.hn ad' cap' g' adm capm hbm)∧(∀ k,rbs (Yn p r.hn ad' cap' g' adm capm hbm) (Yk r m) k→rbs p r k∨(m.n≠0∧k=hbm)∨W.1.size≤k)
 | 8=>v=.pointer (some ⟨B,0,none⟩)
 | 9=>v=.pointer (some ⟨B,9,none⟩)
 | _=>True
theorem Ic {P:Prop} (h:P:=by
  have h:=hK _ X rfl (br _ _)
  refine Zi rfl rfl ?_
  clear hK hg1
  go_simp
  simpa [updT] using h):P:=h
set_option maxRecDepth 100000 in
theorem FE (p0 p3 p4 p5 p6 p7 p8 p9 ze zc za zd v0 v1 v2 v3 v4 v5 v6 v7 v8 v9:Value) (q mb:Nat) (B:Nat) (r:Rc) (p:RcP) (m:Ms) (adm:Option Addr) (capm hbm:Nat) (W:World) (hbx:Bx W B (rcC r p.A)) (hmb:Bx W mb (msL (msF r m) adm capm).toArray) (hq:q<W.1.size) (hqc:W.cell? ⟨q,0,none⟩=some (.pointer (some ⟨B,0,none⟩))) (hg:RcG W r p) (hn:(r.hn:Int)<400) (hB:∀ k,rbs p r k→k≠B∧k≠q∧k≠mb) (hm:SlsAt W adm hbm m.n m.s) (hml:m.n≠0→hbm<W.1.size∧¬rbs p r hbm) (Q:Exit→Act→World→Prop)
  (hQ:∀ (t:Nat→Value) (ad':Option Addr) (cap' g':Nat) (Y:World),RcG Y (Yk r m) (Yn p r.hn ad' cap' g' adm capm hbm)→(∀ k,rbs (Yn p r.hn ad' cap' g' adm capm hbm) (Yk r m) k→rbs p r k∨(m.n≠0∧k=hbm)∨W.1.size≤k)→FrP (fun k=>r.hn≠0∧k=p.g2) W Y→Q .normal ⟨#[p0,.pointer (some ⟨q,0,none⟩),.pointer (some ⟨mb,0,none⟩),p3,p4,p5,p6,p7,p8,p9,ze,zc,za,zd,t 0,t 1,t 2,t 3,t 4,t 5,t 6,t 7,t 8,t 9],[]⟩ (Y.setCell ⟨B,9,none⟩ (.slice ad' (r.hn+1) cap'))) :
  Code.wp Tryz.prog (Code.region 3 #[⟨some 14,.load 81 (.tmp 1),81,Gw,#[],none⟩,⟨some 15,.load 81 (.tmp 1),81,Gw,#[],none⟩,⟨some 16,.nilCheck (.tmp 15),0,Gw,#[⟨1,.data⟩],none⟩,⟨some 17,.fieldAddr 38 (.tmp 16) 5,0,Gw,#[⟨2,.data⟩],none⟩,⟨some 18,.load 35 (.tmp 17),35,Gw,#[⟨3,.data⟩],none⟩,⟨some 19,.load 52 (.tmp 2),52,Gw,#[],none⟩,⟨some 20,.buildSlice 35 1 #[(0,.tmp 19)],35,Gw,#[⟨5,.data⟩],none⟩,⟨some 21,.call ⟨.builtin .append,#[.tmp 18,.tmp 20],#[35,35]⟩,35,Gw,#[⟨4,.data⟩,⟨6,.data⟩],none⟩,⟨some 22,.nilCheck (.tmp 14),0,Gw,#[⟨0,.data⟩,⟨0,.phase⟩,⟨1,.phase⟩,⟨2,.phase⟩,⟨3,.phase⟩,⟨4,.phase⟩,⟨5,.phase⟩,⟨6,.phase⟩,⟨7,.phase⟩],none⟩,⟨some 23,.fieldAddr 38 (.tmp 22) 5,0,Gw,#[⟨8,.data⟩,⟨0,.phase⟩,⟨1,.phase⟩,⟨2,.phase⟩,⟨3,.phase⟩,⟨4,.phase⟩,⟨5,.phase⟩,⟨6,.phase⟩,⟨7,.phase⟩],none⟩,⟨none,.store 35 (.tmp 23) (.tmp 21),0,Gw,#[⟨9,.data⟩,⟨7,.data⟩,⟨7,.chain⟩,⟨0,.phase⟩,⟨1,.phase⟩,⟨2,.phase⟩,⟨3,.phase⟩,⟨4,.phase⟩,⟨5,.phase⟩,⟨6,.phase⟩,⟨7,.phase⟩],none⟩] true) Q ⟨#[p0,.pointer (some ⟨q,0,none⟩),.pointer (some ⟨mb,0,none⟩),p3,p4,p5,p6,p7,p8,p9,ze,zc,za,zd,v0,v1,v2,v3,v4,v5,v6,v7,v8,v9],[]⟩ W:=by
 have g2in:r.hn≠0→rbs p r p.g2:=fun h0=>⟨2,by omega,Or.inl ⟨Nat.pos_of_ne_zero h0,rfl⟩⟩
 have g2lt:r.hn≠0→p.g2<W.1.size:=fun h0=>hg.at_.lt _ (g2in h0)
 have nq:¬(r.hn≠0∧q=p.g2):=fun e=>(hB _ (g2in e.1)).2.1 e.2.symm
 have nB:¬(r.hn≠0∧B=p.g2):=fun e=>(hB _ (g2in e.1)).1 e.2.symm
 have nM:¬(r.hn≠0∧mb=p.g2):=fun e=>(hB _ (g2in e.1)).2.2 e.2.symm
 have lB:=hbx.lt
 have lM:=hmb.lt
 have h9:W.cell? ⟨B,9,none⟩=some (.slice p.A.ha r.hn p.A.hc):=hbx.cell 9
 refine Ip (by kernel_rfl) 10 7 (by omega) (fun X Y=>FrP (fun k=>r.hn≠0∧k=p.g2) X Y) (fun X Y h=>FrP.of_below h) (fun X Y Z h1 h2=>h1.trans h2) (fun t:Nat→Value=>#[p0,.pointer (some ⟨q,0,none⟩),.pointer (some ⟨mb,0,none⟩),p3,p4,p5,p6,p7,p8,p9,ze,zc,za,zd,t 0,t 1,t 2,t 3,t 4,t 5,t 6,t 7,t 8,t 9]) (fun j=>match j with|0=>v0|1=>v1|2=>v2|3=>v3|4=>v4|5=>v5|6=>v6|7=>v7|8=>v8|_=>v9) (holdG B r p m adm capm hbm W) (fun a X=>∃ (t:Nat→Value) (ad':Option Addr) (cap' g':Nat) (Y:World),a=⟨#[p0,.pointer (some ⟨q,0,none⟩),.pointer (some ⟨mb,0,none⟩),p3,p4,p5,p6,p7,p8,p9,ze,zc,za,zd,t 0,t 1,t 2,t 3,t 4,t 5,t 6,t 7,t 8,t 9],[]⟩∧X=Y.setCell ⟨B,9,none⟩ (.slice ad' (r.hn+1) cap')∧RcG Y (Yk r m) (Yn p r.hn ad' cap' g' adm capm hbm)∧(∀ k,rbs (Yn p r.hn ad' cap' g' adm capm hbm) (Yk r m) k→rbs p r k∨(m.n≠0∧k=hbm)∨W.1.size≤k)∧FrP (fun k=>r.hn≠0∧k=p.g2) W Y) (by kernel_rfl) (by kernel_rfl) (by kernel_rfl) ?_ ?_ rfl ?_ ?_ ?_ ?_
 ·intro i v X Y hi1 h hb
  rcases (show i=0∨i=1∨i=2∨i=3∨i=4∨i=5∨i=6∨i=7∨i=8∨i=9 by omega) with rfl|rfl|rfl|rfl|rfl|rfl|rfl|rfl|rfl|rfl
  ·exact h
  ·exact h
  ·exact h
  ·exact h
  ·exact h
  ·exact h
  ·obtain ⟨b2,e1,e2,e3,e4⟩:=h
   exact ⟨b2,e1,e2,ltl e3 hb.size,e4.below hb (by omega)⟩
  ·obtain ⟨ad',cap',g',e1,e2,e3⟩:=h
   exact ⟨ad',cap',g',e1,e2.grow hb,e3⟩
  ·exact h
  ·exact h
 ·intro i v X Y hi1 hi7 h hb
  rcases (show i=0∨i=1∨i=2∨i=3∨i=4∨i=5∨i=6∨i=7∨i=8∨i=9 by omega) with rfl|rfl|rfl|rfl|rfl|rfl|rfl|rfl|rfl|rfl
  ·exact h
  ·exact h
  ·exact h
  ·exact h
  ·exact h
  ·exact h
  ·obtain ⟨b2,e1,e2,e3,e4⟩:=h
   exact ⟨b2,e1,e2,ltl e3 hb.size,⟨fun j hj=>by
    obtain ⟨b,off,c1,c2,c3,c4⟩:=e4.at_ j hj
    exact ⟨b,off,c1,c2,c3,(hb.cell (p:=⟨b,off+j,none⟩) (show b<X.1.size by omega) (fun e=>by have:=g2lt e.1;have e5:b=p.g2:=e.2;omega)).trans c4⟩,e4.one⟩⟩
  ·exact absurd rfl hi7
  ·exact h
  ·exact h
 ·intro t X K hb hg1 hK
  have e4:t 4=.slice p.A.ha r.hn p.A.hc:=hg1 4 (Wt rfl)
  obtain ⟨b2,e6,k1,k2,k3⟩:∃ b2,t 6=.slice (some ⟨b2,0,none⟩) 1 1∧W.1.size≤b2∧b2<X.1.size∧SrcRow X b2 (b2+1) (some ⟨b2,0,none⟩) (1*8) (msD (msF r m) adm capm):=hg1 6 (Wt rfl)
  obtain ⟨ad',cap',g',w4,hrun,hG4,hF4,hK4⟩:=KJ X r p m adm capm hbm b2 (msD (msF r m) adm capm) (hg.grow hb) (by omega) k3 (Iw _ _ _) (hm.grow hb) (fun h0=>⟨ltl (hml h0).1 hb.size,(hml h0).2⟩)
  have h:=hK (.slice ad' (r.hn+1) cap') w4 ⟨ad',cap',g',rfl,hG4,fun k hk=>by
   rcases hK4 k hk with h|h|h
   ·exact Or.inl h
   ·exact Or.inr (Or.inl h)
   ·exact Or.inr (Or.inr (ltr hb.size h))⟩ hF4
  exact YG rfl rfl _ _ 35 35 rfl _ _ _ _ e4 e6 hrun h
 ·intro i hi1 hi7 t X K hb hg1 hK
  rcases (show i=0∨i=1∨i=2∨i=3∨i=4∨i=5∨i=6∨i=7∨i=8∨i=9 by omega) with rfl|rfl|rfl|rfl|rfl|rfl|rfl|rfl|rfl|rfl
  ·have f1:=(hb.cell (p:=⟨q,0,none⟩) hq nq).trans hqc
   exact Ic
  ·have f1:=(hb.cell (p:=⟨q,0,none⟩) hq nq).trans hqc
   exact Ic
  ·have e1:t 1=.pointer (some ⟨B,0,none⟩):=hg1 1 (Wt rfl)
   have h:=hK _ X rfl (br _ _)
   refine Zi rfl rfl ?_
   clear hK hg1
   go_simp
   simpa [updT,e1] using h
  ·have e2:t 2=.pointer (some ⟨B,0,none⟩):=hg1 2 (Wt rfl)
   have h:=hK _ X rfl (br _ _)
   refine Zi rfl rfl ?_
   clear hK hg1
   go_simp
   simpa [updT,e2] using h
  ·have e3:t 3=.pointer (some ⟨B,9,none⟩):=hg1 3 (Wt rfl)
   have f1:=(hb.cell (p:=⟨B,9,none⟩) lB nB).trans h9
   have h:=hK _ X rfl (br _ _)
   refine Zi rfl rfl ?_
   clear hK hg1
   go_simp
   simpa [updT,e3] using h
  ·have x0:X.cell? ⟨mb,0,none⟩=some (.int .i64 m.kind):=(hb.cell (p:=⟨mb,0,none⟩) lM nM).trans (hmb.cell 0)
   have x1:X.cell? ⟨mb,1,none⟩=some (.int .i64 r.num):=(hb.cell (p:=⟨mb,1,none⟩) lM nM).trans (hmb.cell 1)
   have x2:X.cell? ⟨mb,2,none⟩=some (.int .i64 m.to):=(hb.cell (p:=⟨mb,2,none⟩) lM nM).trans (hmb.cell 2)
   have x3:X.cell? ⟨mb,3,none⟩=some (.int .i64 m.bal):=(hb.cell (p:=⟨mb,3,none⟩) lM nM).trans (hmb.cell 3)
   have x4:X.cell? ⟨mb,4,none⟩=some (.int .i64 m.ix):=(hb.cell (p:=⟨mb,4,none⟩) lM nM).trans (hmb.cell 4)
   have x5:X.cell? ⟨mb,5,none⟩=some (.int .i64 m.kn):=(hb.cell (p:=⟨mb,5,none⟩) lM nM).trans (hmb.cell 5)
   have x6:X.cell? ⟨mb,6,none⟩=some (.string m.text):=(hb.cell (p:=⟨mb,6,none⟩) lM nM).trans (hmb.cell 6)
   have x7:X.cell? ⟨mb,7,none⟩=some (.slice adm m.n capm):=(hb.cell (p:=⟨mb,7,none⟩) lM nM).trans (hmb.cell 7)
   exact Ic
  ·have e5:t 5=.agg (msL (msF r m) adm capm).toArray:=hg1 5 (Wt rfl)
   have zb:W.1.size≤X.1.size:=hb.size
   have h:=hK (.slice (some ⟨X.1.size,0,none⟩) 1 1) (X.alloc (.cells (msL (msF r m) adm capm).toArray 52)) ⟨X.1.size,rfl,zb,by simp,Pk X (msF r m) adm capm⟩ (Zb _ _)
   refine Zi rfl rfl ?_
   clear hK hg1
   go_simp
   simpa [updT,e5] using h
  ·exact absurd rfl hi7
  ·have e0:t 0=.pointer (some ⟨B,0,none⟩):=hg1 0 (Wt rfl)
   have h:=hK _ X rfl (br _ _)
   refine Zi rfl rfl ?_
   clear hK hg1
   go_simp
   simpa [updT,e0] using h
  ·have e8:t 8=.pointer (some ⟨B,0,none⟩):=hg1 8 (Wt rfl)
   have h:=hK _ X rfl (br _ _)
   refine Zi rfl rfl ?_
   clear hK hg1
   go_simp
   simpa [updT,e8] using h
 ·intro t X K hb hg1 hK
  have e9:t 9=.pointer (some ⟨B,9,none⟩):=hg1 9 (by omega)
  obtain ⟨ad',cap',g',e7,k1,k2⟩:∃ ad' cap' g',t 7=.slice ad' (r.hn+1) cap'∧RcG X (Yk r m) (Yn p r.hn ad' cap' g' adm capm hbm)∧(∀ k,rbs (Yn p r.hn ad' cap' g' adm capm hbm) (Yk r m) k→rbs p r k∨(m.n≠0∧k=hbm)∨W.1.size≤k):=hg1 7 (by omega)
  have f1:=(hb.cell (p:=⟨B,9,none⟩) lB nB).trans h9
  have f2:=(hb.frozen (p:=⟨B,9,none⟩) lB nB).trans (hbx.free 9)
  have h:=hK ⟨#[p0,.pointer (some ⟨q,0,none⟩),.pointer (some ⟨mb,0,none⟩),p3,p4,p5,p6,p7,p8,p9,ze,zc,za,zd,t 0,t 1,t 2,t 3,t 4,t 5,t 6,t 7,t 8,t 9],[]⟩ (X.setCell ⟨B,9,none⟩ (.slice ad' (r.hn+1) cap')) ⟨t,ad',cap',g',X,rfl,rfl,k1,k2,hb⟩
  refine Zi rfl rfl ?_
  clear hK hg1
  go_simp
  simpa [e9,e7] using h
 ·rintro a X ⟨t,ad',cap',g',Y,rfl,rfl,k1,k2,k3⟩
  exact hQ t ad' cap' g' Y k1 k2 k3
abbrev JC (r:Rc) (x:Sl):Rc:={ r with dk:=⟨r.dk.pr,r.dk.kn,r.dk.n+1,updF r.dk.s r.dk.n x⟩ }
abbrev Xu (p:RcP) (ad':Option Addr) (cap' g':Nat):RcP:={ p with A:={ p.A with da:=ad',dc:=cap' },g1:=g' }
theorem Jw {p:RcP} {r:Rc} {x:Sl} {ad':Option Addr} {cap' g' j k:Nat} (hj:j<7) (h2:j≠1):rb (Xu p ad' cap' g') (JC r x) j k↔rb p r j k:=by
 rcases (show j=0∨j=2∨j=3∨j=4∨j=5∨j=6 by omega) with rfl|rfl|rfl|rfl|rfl|rfl<;>exact Iff.rfl
theorem OV {c:Nat→Value} {n:Nat} {x:Nat→Sl} (h:∀ i,i<n→atSl c i (x i)):∀ j,j<n*2→(c j).oneCell'=true:=fun j hj=>by
 obtain ⟨a0,a1⟩:=h (j / 2) (by omega)
 have e:j=j / 2*2+j % 2:=by omega
 rcases (show j % 2=0∨j % 2=1 by omega) with q|q<;>rw [q] at e<;>rw [e]
 ·rw [Nat.add_zero,a0];rfl
 ·rw [a1];rfl
theorem FO {c d:Nat→Value} {n i:Nat} {x:Sl} (h:atSl c i x) (hi:i<n):atSl (XD c (n*2) d) i x:=by
 obtain ⟨a0,a1⟩:=h
 exact ⟨(if_pos (by omega)).trans a0,(if_pos (by omega)).trans a1⟩
theorem EG {c d:Nat→Value} {n:Nat} {x:Sl} (h:atSl d 0 x):atSl (XD c (n*2) d) n x:=by
 obtain ⟨a0,a1⟩:=h
 have e:∀ k,XD c (n*2) d (n*2+k)=d (0*2+k):=fun k=>by unfold XD;rw [if_neg (by omega)];congr 1;omega
 exact ⟨(e 0).trans a0,(e 1).trans a1⟩
theorem KF (w:World) (r:Rc) (p:RcP) (x:Sl) (b2:Nat) (d:Nat→Value) (h:RcG w r p) (hn:(r.dk.n:Int)≤1048576) (src:SrcRow w b2 (b2+1) (some ⟨b2,0,none⟩) (1*2) d) (hd:atSl d 0 x) :
  ∃ ad' cap' g' w',(Builtin.append_ #[32,32] 32 #[.slice p.A.da r.dk.n p.A.dc,.slice (some ⟨b2,0,none⟩) 1 1]).run Tryz.prog w=.ok (.slice ad' (r.dk.n+1) cap') w'∧RcG w' (JC r x) (Xu p ad' cap' g')∧FrP (fun q=>r.dk.n≠0∧q=p.g1) w w'∧(∀ k,rbs (Xu p ad' cap' g') (JC r x) k→rbs p r k∨w.1.size≤k)∧((r.dk.n≠0∧g'=p.g1)∨w.1.size≤g'):=by
 obtain ⟨c,hrw,hat⟩:∃ c,Rw w p.A.da p.g1 r.dk.n p.A.dc 2 c∧∀ i,i<r.dk.n→atSl c i (r.dk.s i):=by
  by_cases h0:r.dk.n=0
  ·have e:=h.rm.d0 h0
   refine ⟨fun _=>.int .i64 0,?_,fun i hi=>by omega⟩
   rw [h0,e]
   exact Rw.none _ _ _ _ _
  ·obtain ⟨c,hr,ha⟩:=h.at_.o1.row (Nat.pos_of_ne_zero h0)
   exact ⟨c,⟨fun _=>h.at_.o1.addr (Nat.pos_of_ne_zero h0),h.rm.dl,fun _=>h.rm.dr h0,hr.cell⟩,ha⟩
 obtain ⟨ad',cap',g',w',hrun,hrw',hf,hg⟩:=KA (P:=Tryz.prog) w 32 32 109 2 24 _ Tryz.underlying32 Tryz.info109 (by omega) rfl p.A.da p.g1 r.dk.n p.A.dc c hrw (OV hat) b2 (b2+1) (some ⟨b2,0,none⟩) 1 1 d src (by omega) (by omega) (by omega)
 have hc0:0<p.A.dc→r.dk.n≠0:=fun h1 e=>by have:=h.rm.d0 e;omega
 have hf':FrP (fun q=>r.dk.n≠0∧q=p.g1) w w':=hf.mono (fun q hq=>⟨hc0 hq.1,hq.2⟩)
 have hg':(r.dk.n≠0∧g'=p.g1)∨w.1.size≤g':=by rcases hg with hg|hg;exact Or.inl ⟨hc0 hg.1,hg.2⟩;exact Or.inr hg
 have g1in:r.dk.n≠0→rb p r 1 p.g1:=fun h0=>⟨h0,rfl⟩
 have oth:∀ j k,j<7→j≠1→rb p r j k→¬(r.dk.n≠0∧k=p.g1):=fun j k hj h2 hk e=>by
  obtain ⟨e0,rfl⟩:=e
  exact h2 (h.at_.ap j 1 _ hj (by omega) hk (g1in e0))
 have hgl:g'<w'.1.size:=(hrw'.rowF (by omega)).2.lt
 have hblk:∀ k,rb (Xu p ad' cap' g') (JC r x) 1 k→rb p r 1 k∨w.1.size≤k:=fun k hk=>by
  have e:k=g':=hk.2
  subst e
  rcases hg' with ⟨h0,rfl⟩|h1
  ·exact Or.inl (g1in h0)
  ·exact Or.inr h1
 refine ⟨ad',cap',g',w',hrun,⟨⟨?_,?_,?_,?_,?_,?_,?_,?_,?_⟩,⟨hrw'.le,fun e=>absurd e (Nat.succ_ne_zero _),fun _=>hrw'.room (ltl (Nat.succ_pos _) hrw'.le),h.rm.hl,h.rm.h0,fun h0=>Ye (h.rm.hr h0) hf' (oth 2 _ (by omega) (by omega) (Or.inl ⟨Nat.pos_of_ne_zero h0,rfl⟩))⟩⟩,hf',?_,hg'⟩
 ·exact h.at_.o0.frP hf' (fun h0=>⟨oth 0 _ (by omega) (by omega) ⟨h0,rfl⟩,Zr h.at_ (j:=0) (by omega) ⟨h0,rfl⟩⟩)
 ·refine ⟨fun _=>(hrw'.rowF (by omega)).1,fun _=>⟨_,(hrw'.rowF (by omega)).2,fun i hi=>?_⟩⟩
  have hi2:i<r.dk.n+1:=hi
  show atSl _ _ (updF r.dk.s r.dk.n x i)
  by_cases e:i=r.dk.n
  ·subst e
   rw [Zm]
   exact EG hd
  ·rw [Zn _ _ e]
   exact FO (hat i (by omega)) (by omega)
 ·exact h.at_.o2.fr hf' (fun k hk=>oth 2 k (by omega) (by omega) hk)
 ·exact h.at_.o3.frP hf' (fun h0=>⟨oth 3 _ (by omega) (by omega) ⟨h0,rfl⟩,Zr h.at_ (j:=3) (by omega) ⟨h0,rfl⟩⟩)
 ·exact h.at_.o4.frP hf' (fun h0=>⟨oth 4 _ (by omega) (by omega) ⟨h0,rfl⟩,Zr h.at_ (j:=4) (by omega) ⟨h0,rfl⟩⟩)
 ·exact h.at_.o5.frP hf' (fun h0=>⟨oth 5 _ (by omega) (by omega) ⟨h0,rfl⟩,Zr h.at_ (j:=5) (by omega) ⟨h0,rfl⟩⟩)
 ·exact h.at_.o6.fr hf' (fun k hk=>oth 6 k (by omega) (by omega) hk)
 ·rintro k ⟨j,hj,hk⟩
  by_cases h2:j=1
  ·subst h2
   have e:k=g':=hk.2
   subst e
   exact hgl
  ·exact ltl (Zr h.at_ hj ((Jw hj h2).1 hk)) hf'.size
 ·intro i j k hi hj h1 h2
  have key:∀ j k,j<7→j≠1→rb p r j k→¬rb (Xu p ad' cap' g') (JC r x) 1 k:=fun j k hj hj2 hk e=>by
   rcases hblk k e with h3|h3
   ·exact hj2 (h.at_.ap j 1 k hj (by omega) hk h3)
   ·have:=Zr h.at_ hj hk;omega
  by_cases ei:i=1
  ·by_cases ej:j=1
   ·omega
   ·subst ei
    exact absurd h1 (key j k hj ej ((Jw hj ej).1 h2))
  ·by_cases ej:j=1
   ·subst ej
    exact absurd h2 (key i k hi ei ((Jw hi ei).1 h1))
   ·exact h.at_.ap i j k hi hj ((Jw hi ei).1 h1) ((Jw hj ej).1 h2)
 ·rintro k ⟨j,hj,hk⟩
  by_cases h2:j=1
  ·subst h2
   rcases hblk k hk with h3|h3
   ·exact Or.inl ⟨1,by omega,h3⟩
   ·exact Or.inr h3
  ·exact Or.inl ⟨j,hj,(Jw hj h2).1 hk⟩
theorem Room.set {w:World} {g m:Nat} (h:Room w g m) (o:Nat) (v:Value):Room (w.setCell ⟨g,o,none⟩ v) g m:=
 ⟨fun j hj=>by
  obtain ⟨u,hu⟩:=h.has j hj
  by_cases e:j=o
  ·subst e;exact ⟨v,World.cell?_setCell_same _ _ _ hu⟩
  ·exact ⟨u,(World.cell?_setCell_other _ _ _ _ (fun hh=>e (by cases hh;rfl))).trans hu⟩,fun j=>by rw [World.frozen?_setCell];exact h.free j,by rw [World.size_setCell];exact h.lt⟩
abbrev JT (r:Rc) (k:Nat) (x:Sl):Rc:={ r with dk:=⟨r.dk.pr,r.dk.kn,r.dk.n,updF r.dk.s k x⟩ }
abbrev Nt (w:World) (g k:Nat) (x:Sl):World:=(w.setCell ⟨g,k*2,none⟩ (.int .i64 x.bal)).setCell ⟨g,k*2+1,none⟩ (.string x.text)
theorem RcG.slotSet {w:World} {r:Rc} {p:RcP} (h:RcG w r p) {k:Nat} (hk:k<r.dk.n) (x:Sl):RcG (Nt w p.g1 k x) (JT r k x) p∧FrP (rb p r 1) w (Nt w p.g1 k x):=by
 have hn0:r.dk.n≠0:=by omega
 obtain ⟨c,hr,hat⟩:=h.at_.o1.row (by omega)
 have hr2:=(hr.set (o:=k*2) (by omega) (.int .i64 x.bal)).set (o:=k*2+1) (by omega) (.string x.text)
 have hf:FrP (rb p r 1) w (Nt w p.g1 k x):=((FrP.refl (rb p r 1) w).setCell (p:=⟨p.g1,k*2,none⟩) ⟨hn0,rfl⟩ _).setCell (p:=⟨p.g1,k*2+1,none⟩) ⟨hn0,rfl⟩ _
 have o:SlsAt (Nt w p.g1 k x) p.A.da p.g1 r.dk.n (updF r.dk.s k x):=⟨h.at_.o1.addr,fun _=>⟨_,hr2,fun i hi=>by
  by_cases e:i=k
  ·subst e
   rw [Zm]
   exact ⟨(if_neg (by omega)).trans (if_pos rfl),if_pos rfl⟩
  ·rw [Zn _ _ e]
   exact Yy (Yy (hat i hi) e (by omega) (by omega) _) e (by omega) (by omega) _⟩⟩
 refine ⟨⟨h.at_.set1 o hf,⟨h.rm.dl,h.rm.d0,fun h0=>((h.rm.dr h0).set _ _).set _ _,h.rm.hl,h.rm.h0,fun h0=>Ye (h.rm.hr h0) hf (fun e=>?_)⟩⟩,hf⟩
 have:=h.at_.ap 1 2 p.g2 (by omega) (by omega) e (Or.inl ⟨Nat.pos_of_ne_zero h0,rfl⟩)
 omega
abbrev XZ (r:Rc) (j:Nat):Rc:={ r with dk:=⟨r.dk.pr,r.dk.kn,r.dk.n+j,fun i=>if i<r.dk.n then r.dk.s i else ⟨0,⟨#[]⟩⟩⟩ }
theorem Xr (r:Rc) (j:Nat):JC (XZ r j) ⟨0,⟨#[]⟩⟩=XZ r (j+1):=by
 have e:updF (fun i=>if i<r.dk.n then r.dk.s i else (⟨0,⟨#[]⟩⟩:Sl)) (r.dk.n+j) ⟨0,⟨#[]⟩⟩=fun i=>if i<r.dk.n then r.dk.s i else ⟨0,⟨#[]⟩⟩:=funext fun i=>by
  unfold updF
  by_cases h:i=r.dk.n+j
  ·rw [if_pos h,if_neg (by omega)]
  ·rw [if_neg h]
 show ({ r with dk:=⟨r.dk.pr,r.dk.kn,r.dk.n+j+1,updF (fun i=>if i<r.dk.n then r.dk.s i else (⟨0,⟨#[]⟩⟩:Sl)) (r.dk.n+j) ⟨0,⟨#[]⟩⟩⟩ } : Rc)=_
 rw [e]
 rfl
theorem RcG.pad0 {w:World} {r:Rc} {p:RcP} (h:RcG w r p):RcG w (XZ r 0) p:=
 ⟨⟨h.at_.o0,h.at_.o1.congr (fun _ hi=>(if_pos hi).symm),h.at_.o2,h.at_.o3,h.at_.o4,h.at_.o5,h.at_.o6,h.at_.lt,h.at_.ap⟩,⟨h.rm.dl,h.rm.d0,h.rm.dr,h.rm.hl,h.rm.h0,h.rm.hr⟩⟩
def JA (r:Rc) (k:Nat) (x:Sl):Rc:=JT (XZ r (k+1-r.dk.n)) k x
def JE (w:World) (b i:Nat):Nat:=match w.cell? ⟨b,i,none⟩ with|some (.slice _ n _)=>n|_=>0
abbrev slE:Sl:=⟨0,⟨#[]⟩⟩
abbrev slL (x:Sl):List Value:=[.int .i64 x.bal,.string x.text]
def slD (x:Sl) (j:Nat):Value:=(slL x).getD j undef
theorem In (x:Sl):atSl (slD x) 0 x:=⟨rfl,rfl⟩
theorem Pg (w:World) (x:Sl):SrcRow (w.alloc (.cells (slL x).toArray 109)) w.1.size (w.1.size+1) (some ⟨w.1.size,0,none⟩) (1*2) (slD x):=by
 refine ⟨fun j hj=>⟨w.1.size,0,rfl,lrf _,Nat.lt_succ_self _,?_⟩,OV (x:=fun _=>x) (n:=1) (fun i hi=>by
  obtain rfl:i=0:=by omega
  exact In x)⟩
 rw [Nat.zero_add,Zt w (slL x).toArray 109 j]
 have hj2:j<2:=hj
 match j,hj2 with
 | 0,_=>rfl
 | 1,_=>rfl
theorem apEr1 {P:Prop} (h:P:=by
  rcases HH4.out with h|h
  ·have h1:=HG1.out h.1
   rcases h1 with h1|h1
   ·exact Or.inl ⟨h1.1,h.2.trans h1.2⟩
   ·exact Or.inr (by have:=h.2;omega)
  ·right
   have h2:wr.1.size≤g':=ltr (by simp) h
   omega):P:=h
set_option maxRecDepth 100000 in
theorem Og (r:Rc) (p:RcP) (k:Nat) (x:Sl) (w:World) (hg:RcG w r p) (hk:k<1000) :
  Calls Tryz.prog 85 #[rcV r p.A,.int .i64 ((k:Int)+1),slV x] w fun e w'=>∃ p',e=.returned (rcV (JA r k x) p'.A)∧RcG w' (JA r k x) p'∧FrP (fun q=>r.dk.n≠0∧q=p.g1) w w'∧(∀ j,rbs p' (JA r k x) j→rbs p r j∨w.1.size≤j):=by
 have HG:=hid hg
 have HLT:=hid hg.at_.lt
 clear hg
 have hW3:=Bx.new3 w (rcC r p.A) (slL x).toArray (rcL 0 0 false).toArray 38 109 38
 have hB0:Below w.1.size w (((w.alloc (.cells (rcC r p.A) 38)).alloc (.cells (slL x).toArray 109)).alloc (.cells (rcL 0 0 false).toArray 38)):=((Zb _ _).alloc (by simp) _).alloc (by simp;omega) _
 have HW3:=hid hW3
 have HB0:=hid hB0
 clear hW3 hB0
 go_enter Tryz.func85,Tryz.ntmps85
 go_wp2
 have hW3:=HW3.out
 have hB0:=HB0.out
 clear HW3 HB0
 have hzW:w.1.size+1+1<(((w.alloc (.cells (rcC r p.A) 38)).alloc (.cells (slL x).toArray 109)).alloc (.cells (rcL 0 0 false).toArray 38)).1.size:=hW3.2.2.lt
 generalize ((w.alloc (.cells (rcC r p.A) 38)).alloc (.cells (slL x).toArray 109)).alloc (.cells (rcL 0 0 false).toArray 38)=W at *
 obtain ⟨bR,bX,bZ⟩:=hW3
 have I0:Hid (∃ (j:Nat) (p1:RcP),j≤k+1-r.dk.n∧Bx W w.1.size (rcC (XZ r j) p1.A)∧Bx W (w.1.size+1) (slL x).toArray∧Bx W (w.1.size+1+1) (rcL 0 0 false).toArray∧RcG W (XZ r j) p1∧FrP (fun q=>(r.dk.n≠0∧q=p.g1)∨w.1.size≤q) W W∧(r.dk.n+j≠0→(r.dk.n≠0∧p1.g1=p.g1)∨w.1.size+1+1<p1.g1)∧(∀ i,rbs p1 (XZ r j) i→rbs p r i∨w.1.size+1+1<i)):=⟨0,p,zle _,bR,bX,bZ,(HG.out.grow hB0).pad0,FrP.refl _ _,fun h0=>Or.inl ⟨h0,rfl⟩,fun i hi=>Or.inl hi⟩
 clear bR bX bZ
 go_loopw [] (fun wr=>∃ (j:Nat) (p1:RcP),j≤k+1-r.dk.n∧Bx wr w.1.size (rcC (XZ r j) p1.A)∧Bx wr (w.1.size+1) (slL x).toArray∧Bx wr (w.1.size+1+1) (rcL 0 0 false).toArray∧RcG wr (XZ r j) p1∧FrP (fun q=>(r.dk.n≠0∧q=p.g1)∨w.1.size≤q) W wr∧(r.dk.n+j≠0→(r.dk.n≠0∧p1.g1=p.g1)∨w.1.size+1+1<p1.g1)∧(∀ i,rbs p1 (XZ r j) i→rbs p r i∨w.1.size+1+1<i)) (fun wr=>k+1-JE wr w.1.size 8)
 case atStart=>exact I0.out
 case round=>
  obtain ⟨j,p1,hj,bR,bX,bZ,hG1,hF,hg1,hblk⟩:=hrel
  clear I0
  obtain ⟨q0,q1,q2,q3,q4,q5,q6,q7,q8,q9,q10,q11,q12,q13,q14,q15,q16,q17⟩:=Ze bR.cell
  clear q0 q1 q2 q3 q4 q5 q6 q7 q9 q10 q11 q12 q13 q14 q15 q16 q17
  have qf:=bR.free
  have qlt:=bR.lt
  have BR:=hid bR
  have BX:=hid bX
  have BZ:=hid bZ
  have G1:=hid hG1
  have FF:=hid hF
  have HG1:=hid hg1
  have HBK:=hid hblk
  have zr:W.1.size≤wr.1.size:=hF.size
  have ng:Hid (∀ b,w.1.size≤b→b≤w.1.size+1+1→¬(r.dk.n+j≠0∧b=p1.g1)):=fun b h1 h2 e=>by
   have hr:rbs p1 (XZ r j) p1.g1:=⟨1,by omega,e.1,rfl⟩
   rcases hblk _ hr with h|h
   ·have:=HLT.out _ h;omega
   ·omega
  clear bR bX bZ hG1 hF hg1 hblk
  by_cases hlt:r.dk.n+j<k+1
  ·go_wp2_with (first|((with_reducible show wpList _ _ _ (⟨some 18,_,_,_,_,_⟩::_) _ _);go_must (obtain ⟨ad',cap',g',w4,hrun,hG4,hF4,hK4,hg4⟩:=KF (wr.alloc (.cells (slL slE).toArray 109)) (XZ r j) p1 slE wr.1.size (slD slE) (G1.out.grow (Zb _ _)) (by show ((r.dk.n+j:Nat):Int)≤1048576;omega) (Pg wr slE) (In _);refine Zq rfl _ _ 32 32 rfl _ _ _ _ rfl rfl hrun ?_;have fx:FrP (fun q=>r.dk.n+j≠0∧q=p1.g1) wr w4:=(FrP.of_below (Zb _ _)).trans hF4;have R4:=hid (BR.out.frP fx (ng.out _ (lrf _) (by omega)));have X4:=hid (BX.out.frP fx (ng.out _ (by omega) (by omega)));have Z4:=hid (BZ.out.frP fx (ng.out _ (by omega) (by omega)));have G4:=hid hG4;have K4:=hid hK4;have HH4:=hid hg4;have FX:=hid fx;have z4:=fx.size;clear hrun hG4 hF4 hK4 hg4 fx q8 qf;obtain ⟨q0,q1,q2,q3,q4,q5,q6,q7,q8,q9,q10,q11,q12,q13,q14,q15,q16,q17⟩:=Ze R4.out.cell;clear q0 q1 q2 q3 q4 q5 q6 q7 q9 q10 q11 q12 q13 q14 q15 q16 q17;have qf:=R4.out.free)))
   have b5:=R4.out.to (hset8 R4.out.cell (.slice ad' (r.dk.n+j+1) cap'))
   have f5:FrP (fun q=>q=w.1.size) w4 (w4.setCell ⟨w.1.size,8,none⟩ (.slice ad' (r.dk.n+j+1) cap')):=(FrP.refl (fun q=>q=w.1.size) w4).setCell (p:=⟨w.1.size,8,none⟩) rfl _
   have HL5:Hid (JE (w4.setCell ⟨w.1.size,8,none⟩ (.slice ad' (r.dk.n+j+1) cap')) w.1.size 8=r.dk.n+j+1):=by
    have:=b5.cell 8
    unfold JE
    rw [this]
    exact rfl
   have HL4:Hid (JE wr w.1.size 8=r.dk.n+j):=by
    have:=BR.out.cell 8
    unfold JE
    rw [this]
    exact rfl
   have hb4:∀ i,rbs (Xu p1 ad' cap' g') (JC (XZ r j) slE) i→rbs p r i∨w.1.size+1+1<i:=fun i hi=>by
    rcases K4.out i hi with h|h
    ·exact HBK.out i h
    ·right
     have h2:wr.1.size≤i:=ltr (by simp) h
     omega
   have nS:∀ i,rbs (Xu p1 ad' cap' g') (JC (XZ r j) slE) i→¬i=w.1.size:=fun i hi e=>by
    rcases hb4 i hi with h|h
    ·have:=HLT.out i h;omega
    ·omega
   have HB5:Hid (Bx (w4.setCell ⟨w.1.size,8,none⟩ (.slice ad' (r.dk.n+j+1) cap')) w.1.size (rcC (XZ r (j+1)) (Xu p1 ad' cap' g').A)):=by rw [←Xr];exact b5
   have HG5:Hid (RcG (w4.setCell ⟨w.1.size,8,none⟩ (.slice ad' (r.dk.n+j+1) cap')) (XZ r (j+1)) (Xu p1 ad' cap' g')):=by rw [←Xr];exact G4.out.fr f5 nS
   have HK5:Hid (∀ i,rbs (Xu p1 ad' cap' g') (XZ r (j+1)) i→rbs p r i∨w.1.size+1+1<i):=by rw [←Xr];exact hb4
   have HX5:=hid (X4.out.frP f5 (by omega))
   have HZ5:=hid (Z4.out.frP f5 (by omega))
   have HF5:=hid ((FF.out.trans (FX.out.mono (fun q hq=>by
    rcases HG1.out hq.1 with h|h
    ·exact (Or.inl ⟨h.1,hq.2.trans h.2⟩:(r.dk.n≠0∧q=p.g1)∨w.1.size≤q)
    ·exact Or.inr (by have:=hq.2;omega)))).trans (f5.mono (fun q hq=>Or.inr (by omega))))
   have HG6:Hid (r.dk.n+(j+1)≠0→(r.dk.n≠0∧g'=p.g1)∨w.1.size+1+1<g'):=fun _=>by
    exact apEr1
   clear b5 f5 hb4 nS
   generalize w4.setCell ⟨w.1.size,8,none⟩ (.slice ad' (r.dk.n+j+1) cap')=w5 at *
   clear q8 qf R4 X4 Z4 G4 K4 FX
   go_roundw
   case rel=>exact ⟨j+1,_,by omega,HB5.out,HX5.out,HZ5.out,HG5.out,HF5.out,HG6.out,HK5.out⟩
   case measure=>rw [HL5.out,HL4.out];omega
  ·obtain rfl:j=k+1-r.dk.n:=by omega
   have hkn:k<(XZ r (k+1-r.dk.n)).dk.n:=by show k<r.dk.n+(k+1-r.dk.n);omega
   have hda:p1.A.da=some ⟨p1.g1,0,none⟩:=G1.out.at_.o1.addr (by omega)
   rw [hda] at q8
   obtain ⟨cc,rr,_⟩:=G1.out.at_.o1.row (by omega)
   have r0:=rr.cell (k*2) (by omega)
   have r1:=rr.cell (k*2+1) (by omega)
   have rf:=rr.free
   have hs:=G1.out.slotSet hkn x
   have HS1:=hid hs.1
   have HS2:=hid hs.2
   have x0:wr.cell? ⟨w.1.size+1,0,none⟩=some (.int .i64 x.bal):=BX.out.cell 0
   have x1:wr.cell? ⟨w.1.size+1,1,none⟩=some (.string x.text):=BX.out.cell 1
   have HDA:=hid hda
   have mark:Nat:=0
   have hnk:k<r.dk.n+(k+1-r.dk.n):=hkn
   clear hs rr hda
   go_wp2_with (first|((with_reducible show wpList _ _ _ (⟨some 28,Op.load 38 _,_,_,_,_⟩::_) _ _);clear mark;go_must (have Q5:Hid (Bx ((wr.setCell ⟨p1.g1,k*2,none⟩ (.int .i64 x.bal)).setCell ⟨p1.g1,k*2+1,none⟩ (.string x.text)) w.1.size (rcC (JT (XZ r (k+1-r.dk.n)) k x) p1.A)):=BR.out.frP HS2.out (ng.out _ (lrf _) (by omega));have Z5:Hid (Bx ((wr.setCell ⟨p1.g1,k*2,none⟩ (.int .i64 x.bal)).setCell ⟨p1.g1,k*2+1,none⟩ (.string x.text)) (w.1.size+1+1) (rcL 0 0 false).toArray):=BZ.out.frP HS2.out (ng.out _ (by omega) (lrf _));have HS3:Hid (RcG ((wr.setCell ⟨p1.g1,k*2,none⟩ (.int .i64 x.bal)).setCell ⟨p1.g1,k*2+1,none⟩ (.string x.text)) (JT (XZ r (k+1-r.dk.n)) k x) p1):=HS1.out;have HS4:Hid (FrP (rb p1 (XZ r (k+1-r.dk.n)) 1) wr ((wr.setCell ⟨p1.g1,k*2,none⟩ (.int .i64 x.bal)).setCell ⟨p1.g1,k*2+1,none⟩ (.string x.text))):=HS2.out;clear HS1 HS2;(generalize ((wr.setCell ⟨p1.g1,k*2,none⟩ (.int .i64 x.bal)).setCell ⟨p1.g1,k*2+1,none⟩ (.string x.text))=U at *);clear q8 qf qlt r0 r1 rf x0 x1 BR BX BZ))|((with_reducible show wpList _ _ _ (⟨some 28,Op.load 38 _,_,_,_,_⟩::_) _ _);go_must (refine LD38 (rcC (JT (XZ r (k+1-r.dk.n)) k x) p1.A).toList Q5.out.cell ?_))|((with_reducible show wpList _ _ _ (⟨none,Op.store 38 _ _,_,_,_,_⟩::_) _ _);go_must (refine Zd rfl 38 _ _ rfl (w.1.size+1+1) (rcC (JT (XZ r (k+1-r.dk.n)) k x) p1.A).toList rfl rfl Z5.out rfl Tryz.sz38 (by simp [Value.oneCell']) ?_;intro V2 hr hfr hsv;have HBV2:=hid hr;have HFV2:=hid hfr;clear hr hfr hsv)))
   have f6:FrP (fun q=>q=w.1.size+1+1) U V2:=FrP.of_fr HFV2.out (fun k h1 h2=>by omega)
   refine RZ (rcC (JT (XZ r (k+1-r.dk.n)) k x) p1.A).toList HBV2.out.cell ?_
   have hb5:∀ i,rbs p1 (JT (XZ r (k+1-r.dk.n)) k x) i→rbs p r i∨w.1.size+1+1<i:=HBK.out
   refine ⟨p1,rfl,HS3.out.fr f6 (fun i hi e=>?_),?_,fun i hi=>?_⟩
   ·rcases hb5 i hi with h|h
    ·have:=HLT.out i h;omega
    ·omega
   ·exact (FrP.of_below (P:=fun q=>r.dk.n≠0∧q=p.g1) hB0).trans2 (FF.out.trans ((HS4.out.mono (fun q hq=>by
     have hq1:q=p1.g1:=hq.2
     rcases HG1.out hq.1 with h|h
     ·exact (Or.inl ⟨h.1,hq1.trans h.2⟩:(r.dk.n≠0∧q=p.g1)∨w.1.size≤q)
     ·exact Or.inr (by omega))).trans (f6.mono (fun q hq=>Or.inr (by omega))))) (fun q hq e=>by
     rcases e with e|e
     ·exact e
     ·omega)
   ·rcases hb5 i hi with h|h
    ·exact Or.inl h
    ·exact Or.inr (by omega)
def putG (B g n cap k:Nat) (x:Sl) (i:Nat) (v:Value) (_X:World):Prop:=
 match i with
 | 0=>v=.pointer (some ⟨B,6,none⟩)
 | 1=>v=.pointer (some ⟨B,6,none⟩)
 | 2=>v=.pointer (some ⟨B,8,none⟩)
 | 3=>v=.slice (some ⟨g,0,none⟩) n cap
 | 4=>v=.int .i64 ((k:Int)+1)
 | 5=>v=.int .i64 (k:Int)
 | 6=>v=.agg #[.int .i64 x.bal,.string x.text]
 | 7=>v=.pointer (some ⟨g,k*2,none⟩)
 | _=>True
set_option maxRecDepth 100000 in
theorem putReg3 (p2 p3 p4 p6 p7 p8 p9 ze zc za zd zi zj zg zh zn zm zo zp zq v0 v1 v2 v3 v4 v5 v6 v7:Value) (mb:Nat) (B g n cap k:Nat) (x:Sl) (W:World) (h8:W.cell? ⟨B,8,none⟩=some (.slice (some ⟨g,0,none⟩) n cap)) (x0:W.cell? ⟨mb,0,none⟩=some (.int .i64 x.bal)) (x1:W.cell? ⟨mb,1,none⟩=some (.string x.text)) (lB:B<W.1.size) (lM:mb<W.1.size) (lg:g<W.1.size) (hk:k<n) (hk2:k<1000) (u0 u1:Value) (r0:W.cell? ⟨g,k*2,none⟩=some u0) (r1:W.cell? ⟨g,k*2+1,none⟩=some u1) (rf:∀ j,W.frozen? ⟨g,j,none⟩=false) (Q:Exit→Act→World→Prop)
  (hQ:∀ (t:Nat→Value) (Y:World),Below W.1.size W Y→Q .normal ⟨#[.pointer (some ⟨B,6,none⟩),.int .i64 ((k:Int)+1),p2,p3,p4,.pointer (some ⟨mb,0,none⟩),p6,p7,p8,p9,ze,zc,za,zd,zi,zj,zg,zh,zn,zm,zo,zp,zq,t 0,t 1,t 2,t 3,t 4,t 5,t 6,t 7],[]⟩ (Nt Y g k x)) :
  Code.wp Tryz.prog (Code.region 3 #[⟨some 23,.move (.tmp 0),155,Gx,#[],none⟩,⟨some 24,.nilCheck (.tmp 23),0,Gx,#[⟨0,.data⟩],none⟩,⟨some 25,.fieldAddr 34 (.tmp 24) 2,0,Gx,#[⟨1,.data⟩],none⟩,⟨some 26,.load 32 (.tmp 25),32,Gx,#[⟨2,.data⟩],none⟩,⟨some 27,.move (.tmp 1),3,Gx,#[],none⟩,⟨some 28,.binOp .sub 3 (.tmp 27) (.const (.int .i64 1)) 3,3,Gx,#[⟨4,.data⟩],none⟩,⟨some 29,.load 109 (.tmp 5),109,Gx,#[],none⟩,⟨some 30,.indexAddr 32 (.tmp 26) (.tmp 28),0,Gx,#[⟨3,.data⟩,⟨5,.data⟩,⟨0,.phase⟩,⟨1,.phase⟩,⟨2,.phase⟩,⟨3,.phase⟩,⟨4,.phase⟩,⟨5,.phase⟩,⟨6,.phase⟩],none⟩,⟨none,.store 109 (.tmp 30) (.tmp 29),0,Gx,#[⟨7,.data⟩,⟨6,.data⟩,⟨0,.phase⟩,⟨1,.phase⟩,⟨2,.phase⟩,⟨3,.phase⟩,⟨4,.phase⟩,⟨5,.phase⟩,⟨6,.phase⟩],none⟩] true) Q ⟨#[.pointer (some ⟨B,6,none⟩),.int .i64 ((k:Int)+1),p2,p3,p4,.pointer (some ⟨mb,0,none⟩),p6,p7,p8,p9,ze,zc,za,zd,zi,zj,zg,zh,zn,zm,zo,zp,zq,v0,v1,v2,v3,v4,v5,v6,v7],[]⟩ W:=by
 refine ZL (by kernel_rfl) 8 (fun t:Nat→Value=>#[.pointer (some ⟨B,6,none⟩),.int .i64 ((k:Int)+1),p2,p3,p4,.pointer (some ⟨mb,0,none⟩),p6,p7,p8,p9,ze,zc,za,zd,zi,zj,zg,zh,zn,zm,zo,zp,zq,t 0,t 1,t 2,t 3,t 4,t 5,t 6,t 7]) (fun j=>match j with|0=>v0|1=>v1|2=>v2|3=>v3|4=>v4|5=>v5|6=>v6|_=>v7) (putG B g n cap k x) (fun a X=>∃ (t:Nat→Value) (Y:World),a=⟨#[.pointer (some ⟨B,6,none⟩),.int .i64 ((k:Int)+1),p2,p3,p4,.pointer (some ⟨mb,0,none⟩),p6,p7,p8,p9,ze,zc,za,zd,zi,zj,zg,zh,zn,zm,zo,zp,zq,t 0,t 1,t 2,t 3,t 4,t 5,t 6,t 7],[]⟩∧X=Nt Y g k x∧Below W.1.size W Y) (by kernel_rfl) (by kernel_rfl) (by kernel_rfl) ?_ rfl ?_ ?_ ?_
 ·intro i v X Y hi1 h hb
  rcases (show i=0∨i=1∨i=2∨i=3∨i=4∨i=5∨i=6∨i=7 by omega) with rfl|rfl|rfl|rfl|rfl|rfl|rfl|rfl<;>exact h
 ·intro i hi1 t X K hb hg1 hK
  rcases (show i=0∨i=1∨i=2∨i=3∨i=4∨i=5∨i=6∨i=7 by omega) with rfl|rfl|rfl|rfl|rfl|rfl|rfl|rfl
  ·exact Ic
  ·have e0:t 0=.pointer (some ⟨B,6,none⟩):=hg1 0 (Wt rfl)
   have h:=hK _ X rfl (br _ _)
   refine Zi rfl rfl ?_
   clear hK hg1
   go_simp
   simpa [updT,e0] using h
  ·have e1:t 1=.pointer (some ⟨B,6,none⟩):=hg1 1 (Wt rfl)
   have h:=hK _ X rfl (br _ _)
   refine Zi rfl rfl ?_
   clear hK hg1
   go_simp
   simpa [updT,e1] using h
  ·have e2:t 2=.pointer (some ⟨B,8,none⟩):=hg1 2 (Wt rfl)
   have f1:=(hb.cell (p:=⟨B,8,none⟩) lB).trans h8
   have h:=hK _ X rfl (br _ _)
   refine Zi rfl rfl ?_
   clear hK hg1
   go_simp
   simpa [updT,e2] using h
  ·exact Ic
  ·have e4:t 4=.int .i64 ((k:Int)+1):=hg1 4 (Wt rfl)
   have hw:IntKind.i64.wrap (k:Int)=(k:Int):=by rw [IntKind.wrap_i64];omega
   have h:=hK _ X rfl (br _ _)
   refine Zi rfl rfl ?_
   clear hK hg1
   go_simp
   simpa [updT,e4,hw] using h
  ·have f1:=(hb.cell (p:=⟨mb,0,none⟩) lM).trans x0
   have f2:=(hb.cell (p:=⟨mb,1,none⟩) lM).trans x1
   exact Ic
  ·have e3:t 3=.slice (some ⟨g,0,none⟩) n cap:=hg1 3 (Wt rfl)
   have e5:t 5=.int .i64 (k:Int):=hg1 5 (Wt rfl)
   have h:=hK _ X rfl (br _ _)
   refine Zi rfl rfl ?_
   clear hK hg1
   go_simp
   simpa [updT,e3,e5] using h
 ·intro t X K hb hg1 hK
  have e7:t 7=.pointer (some ⟨g,k*2,none⟩):=hg1 7 (by omega)
  have e6:t 6=.agg #[.int .i64 x.bal,.string x.text]:=hg1 6 (by omega)
  have f0:=(hb.cell (p:=⟨g,k*2,none⟩) lg).trans r0
  have f1:=(hb.cell (p:=⟨g,k*2+1,none⟩) lg).trans r1
  have ff:∀ j,X.frozen? ⟨g,j,none⟩=false:=fun j=>(hb.frozen (p:=⟨g,j,none⟩) lg).trans (rf j)
  have h:=hK ⟨#[.pointer (some ⟨B,6,none⟩),.int .i64 ((k:Int)+1),p2,p3,p4,.pointer (some ⟨mb,0,none⟩),p6,p7,p8,p9,ze,zc,za,zd,zi,zj,zg,zh,zn,zm,zo,zp,zq,t 0,t 1,t 2,t 3,t 4,t 5,t 6,t 7],[]⟩ (Nt X g k x) ⟨t,X,rfl,rfl,hb⟩
  refine Zi rfl rfl ?_
  clear hK hg1
  go_simp
  simpa [e7,e6] using h
 ·rintro a X ⟨t,Y,rfl,rfl,k3⟩
  exact hQ t Y k3
theorem RowF.room {w:World} {g m:Nat} {c:Nat→Value} (h:RowF w g m c):Room w g m:=⟨fun j hj=>⟨_,h.cell j hj⟩,h.free,h.lt⟩
theorem RcAt.tight {w:World} {r:Rc} {p:RcP} (h:RcAt w r p) (ht:JB r p.A):RcG w r p:=
 ⟨h,⟨Nat.le_of_eq ht.dc.symm,fun e=>ht.dc.trans e,fun h0=>by
  obtain ⟨c,hr,_⟩:=h.o1.row (Nat.pos_of_ne_zero h0)
  rw [ht.dc]
  exact hr.room,Nat.le_of_eq ht.hc.symm,fun e=>ht.hc.trans e,fun h0=>by
  obtain ⟨c,hr,_⟩:=h.o2.row (Nat.pos_of_ne_zero h0)
  rw [ht.hc]
  exact hr.room⟩⟩
set_option maxRecDepth 100000 in
theorem Po (n:Nat) (ad:Option Addr) (cap:Nat) (o:Int) (w:World) (hn:(n:Int)≤1048576) :
  Calls Tryz.prog 164 #[.slice ad n cap,.int .i64 o] w fun e w'=>e=.returned (.bool (decide (o<2*(n:Int))))∧w'=w:=by
 by_cases h:o<2*(n:Int)
 ·have HE:=hid (decide_eq_true h)
  go_enter Tryz.func164,Tryz.ntmps164
  go_wp2
  go_ret
  exact ⟨Zh HE.out.symm,rfl⟩
 ·have HE:=hid (decide_eq_false h)
  go_enter Tryz.func164,Tryz.ntmps164
  go_wp2
  go_ret
  exact ⟨Zh HE.out.symm,rfl⟩
set_option maxRecDepth 100000 in
theorem OO (d:Dk) (ad:Option Addr) (cap k:Nat) (b:Int) (w:World) (lo hi:Nat) (hhi:hi≤w.1.size) (hk:k<2000000) (hc:SlsIn w lo hi ad d.n d.s) :
  Calls Tryz.prog 156 #[dkV d ad cap,.int .i64 ((k:Int)+1),.int .i64 b] w fun e w'=>e=.returned (.bool (decide (k<d.n)&&decide ((d.s k).bal=b)))∧Below w.1.size w w':=by
 by_cases h:k<d.n
 ·obtain ⟨g,off,rfl,h1,h2,h3⟩:=hc k h
  obtain ⟨d0,d1⟩:=h3
  have hgw:g<w.1.size:=by omega
  clear hc d1
  by_cases e:(d.s k).bal=b
  ·have HE:=hid (show (decide (k<d.n)&&decide ((d.s k).bal=b))=true by rw [decide_eq_true h,decide_eq_true e];rfl)
   generalize (decide (k<d.n)&&decide ((d.s k).bal=b))=O at *
   go_enter Tryz.func156,Tryz.ntmps156
   go_wp2
   go_ret
   exact ⟨Zh HE.out.symm,Zb _ _⟩
  ·have HE:=hid (show (decide (k<d.n)&&decide ((d.s k).bal=b))=false by rw [decide_eq_true h,decide_eq_false e];rfl)
   have HN:=hid (show ((d.s k).bal==b)=false by simpa using e)
   generalize (decide (k<d.n)&&decide ((d.s k).bal=b))=O at *
   go_enter Tryz.func156,Tryz.ntmps156
   go_wp2
   go_ret
   exact ⟨Zh (HN.out.trans HE.out.symm),Zb _ _⟩
 ·have HE:=hid (show (decide (k<d.n)&&decide ((d.s k).bal=b))=false by rw [decide_eq_false h];rfl)
  generalize (decide (k<d.n)&&decide ((d.s k).bal=b))=O at *
  clear hc
  go_enter Tryz.func156,Tryz.ntmps156
  go_wp2
  go_ret
  exact ⟨Zh HE.out.symm,Zb _ _⟩
end Go.Proofs.YtokkbdlofbdljaaGreat
