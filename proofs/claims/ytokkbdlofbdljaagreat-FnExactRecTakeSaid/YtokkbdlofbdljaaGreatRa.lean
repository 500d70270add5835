import Derived.Test.YtokkbdlofbdljaaGreatGs
import Derived.Test.YtokkbdlofbdljaaGreatSb
namespace Go.Proofs.YtokkbdlofbdljaaGreat
open Go.RowKit
set_option maxHeartbeats 8000000
set_option maxRecDepth 100000 in
theorem hold_doW (r:Rc) (p:RcP) (m:Ms) (adm:Option Addr) (capm hbm B q:Nat) (w:World) (hbx:Bx w B (rcC r p.A)) (hq:q<w.1.size) (hqc:w.cell? ⟨q,0,none⟩=some (.pointer (some ⟨B,0,none⟩))) (hg:RcG w r p) (hB:∀ k,rbs p r k→k≠B∧k≠q) (hm:SlsAt w adm hbm m.n m.s) (hml:m.n≠0→hbm<w.1.size∧¬rbs p r hbm∧hbm≠B) :
  Calls Tryz.prog 150 #[msV m adm capm,.pointer (some ⟨q,0,none⟩)] w fun e w'=>e=.returned (.tuple #[])∧∃ p',Bx w' B (rcC (Zo r m) p'.A)∧RcG w' (Zo r m) p'∧FrP (fun k=>k=B∨(r.hn≠0∧k=p.g2)) w w'∧(∀ k,rbs p' (Zo r m) k→rbs p r k∨(m.n≠0∧k=hbm)∨w.1.size≤k)∧p'.A.wa=p.A.wa∧p'.A.wc=p.A.wc:=by
 have HBX:=hid hbx
 have HBL:=hbx.lt
 have HQ1:=hq
 have HQC:=hid hqc
 have HG:=hid hg
 have HLT:=hid hg.at_.lt
 have HB:=hid hB
 have HMS:=hid hm
 have HML:=hid hml
 clear hbx hq hqc hg hB hm hml
 have mark:Nat:=0
 by_cases hn:(r.hn:Int)<400
 ·have OUT:=hid (show Zo r m=Yk r m from if_pos hn)
  generalize Zo r m=O at *
  go_enter Tryz.func150,Tryz.ntmps150
  go_wp2_with (first|((with_reducible show wpList _ _ _ (⟨some 3,_,_,_,_,_⟩::_) _ _);clear mark;go_must (have M0:=hid (Bx.new w (msL m adm capm).toArray 52);have hB0:Below w.1.size w (w.alloc (.cells (msL m adm capm).toArray 52)):=Zb _ _;have zS:w.1.size<(w.alloc (.cells (msL m adm capm).toArray 52)).1.size:=(by simp);(generalize (w.alloc (.cells (msL m adm capm).toArray 52))=W at *);have BX:=hid (HBX.out.below hB0 HBL);obtain ⟨q0,q1,q2,q3,q4,q5,q6,q7,q8,q9,q10,q11,q12,q13,q14,q15,q16,q17⟩:=Ze BX.out.cell;clear q1 q2 q3 q4 q5 q6 q7 q8 q10 q11 q12 q13 q14 q15 q16 q17;have qc:=(hB0.cell (p:=⟨q,0,none⟩) HQ1).trans HQC.out;have m1:W.cell? ⟨w.1.size,1,none⟩=some (.int .i64 m.from_):=M0.out.cell 1;have mf:=M0.out.free)))
  have f1:FrP (fun k=>k=w.1.size) W (W.setCell ⟨w.1.size,1,none⟩ (.int .i64 r.num)):=(FrP.refl (fun k=>k=w.1.size) W).setCell (p:=⟨w.1.size,1,none⟩) rfl _
  have M1:Bx (W.setCell ⟨w.1.size,1,none⟩ (.int .i64 r.num)) w.1.size (msL (msF r m) adm capm).toArray:=M0.out.to (Holds.set (i:=1) M0.out.cell (by simp) (.int .i64 r.num))
  have zW:=hB0.size
  have ltB:∀ k,rbs p r k→k<w.1.size:=HLT.out
  refine holdReg3 _ _ _ _ _ _ _ _ _ _ _ _ _ _ _ _ _ _ _ _ _ _ q w.1.size B r p m adm capm hbm (W.setCell ⟨w.1.size,1,none⟩ (.int .i64 r.num)) (BX.out.frP f1 (by omega)) M1 (by rw [World.size_setCell];omega) ((f1.cell (p:=⟨q,0,none⟩) (by show q<_;omega) (by show ¬q=_;omega)).trans qc) ((HG.out.grow hB0).fr f1 (fun k hk e=>by have:=ltB k hk;omega)) hn (fun k hk=>⟨(HB.out k hk).1,(HB.out k hk).2,by have:=ltB k hk;omega⟩) ((HMS.out.grow hB0).frP f1 (fun h0=>⟨by have:=(HML.out h0).1;omega,by have:=(HML.out h0).1;omega⟩)) (fun h0=>⟨by rw [World.size_setCell];have:=(HML.out h0).1;omega,(HML.out h0).2.1⟩) _ ?_
  intro t ad' cap' g' Y kG kB kF
  have kB2:∀ k,rbs (Yn p r.hn ad' cap' g' adm capm hbm) (Yk r m) k→rbs p r k∨(m.n≠0∧k=hbm)∨w.1.size<k:=fun k hk=>by
   rcases kB k hk with h|h|h
   ·exact Or.inl h
   ·exact Or.inr (Or.inl h)
   ·rw [World.size_setCell] at h;exact Or.inr (Or.inr (by omega))
  have nB:¬(r.hn≠0∧B=p.g2):=fun e=>(HB.out _ ⟨2,by omega,Or.inl ⟨Nat.pos_of_ne_zero e.1,rfl⟩⟩).1 e.2.symm
  have BY:Bx Y B (rcC r p.A):=(BX.out.frP f1 (by omega)).frP kF nB
  have fB:=(FrP.refl (fun k=>k=B) Y).setCell (p:=⟨B,9,none⟩) rfl (.slice ad' (r.hn+1) cap')
  have HR1:Hid (Bx (Y.setCell ⟨B,9,none⟩ (.slice ad' (r.hn+1) cap')) B (rcC (Yk r m) (Yn p r.hn ad' cap' g' adm capm hbm).A)):=BY.to (hset9 BY.cell _)
  have HR2:=hid (kG.fr fB (fun k hk e=>by
   rcases kB2 k hk with h|h|h
   ·exact (HB.out k h).1 e
   ·exact (HML.out h.1).2.2 (h.2.symm.trans e)
   ·omega))
  have HR3:Hid (FrP (fun k=>k=B∨(r.hn≠0∧k=p.g2)) w (Y.setCell ⟨B,9,none⟩ (.slice ad' (r.hn+1) cap'))):=(FrP.of_below (P:=fun k=>k=B∨(r.hn≠0∧k=p.g2)) hB0).trans2 ((f1.mono (fun k hk=>(Or.inl hk:k=w.1.size∨(k=B∨(r.hn≠0∧k=p.g2))))).trans ((kF.mono (fun k hk=>Or.inr (Or.inr hk))).trans (fB.mono (fun k hk=>Or.inr (Or.inl hk))))) (fun k hk e=>by
    rcases e with e|e
    ·omega
    ·exact e)
  have HR4:=hid kB2
  generalize Y.setCell ⟨B,9,none⟩ (.slice ad' (r.hn+1) cap')=V at *
  clear kB kB2 kG kF BY fB f1 M1
  refine bodyPost_end (results_none rfl _ _ _) rfl ⟨rfl,Yn p r.hn ad' cap' g' adm capm hbm,?_⟩
  rw [OUT.out]
  exact ⟨HR1.out,HR2.out,HR3.out,fun k hk=>by
   rcases HR4.out k hk with h|h|h
   ·exact Or.inl h
   ·exact Or.inr (Or.inl h)
   ·exact Or.inr (Or.inr (by omega)),rfl,rfl⟩
 ·have OUT:=hid (show Zo r m=r from if_neg hn)
  generalize Zo r m=O at *
  go_enter Tryz.func150,Tryz.ntmps150
  go_wp2_with (first|((with_reducible show wpList _ _ _ (⟨some 3,_,_,_,_,_⟩::_) _ _);clear mark;go_must (have M0:=hid (Bx.new w (msL m adm capm).toArray 52);have hB0:Below w.1.size w (w.alloc (.cells (msL m adm capm).toArray 52)):=Zb _ _;have zS:w.1.size<(w.alloc (.cells (msL m adm capm).toArray 52)).1.size:=(by simp);(generalize (w.alloc (.cells (msL m adm capm).toArray 52))=W at *);have BX:=hid (HBX.out.below hB0 HBL);obtain ⟨q0,q1,q2,q3,q4,q5,q6,q7,q8,q9,q10,q11,q12,q13,q14,q15,q16,q17⟩:=Ze BX.out.cell;clear q1 q2 q3 q4 q5 q6 q7 q8 q10 q11 q12 q13 q14 q15 q16 q17;have qc:=(hB0.cell (p:=⟨q,0,none⟩) HQ1).trans HQC.out;have m1:W.cell? ⟨w.1.size,1,none⟩=some (.int .i64 m.from_):=M0.out.cell 1;have mf:=M0.out.free)))
  refine bodyPost_end (results_none rfl _ _ _) rfl ⟨rfl,p,?_⟩
  rw [OUT.out]
  exact ⟨BX.out,HG.out.grow hB0,FrP.of_below hB0,fun k hk=>Or.inl hk,rfl,rfl⟩
def DoW (B:Nat) (r:Rc) (p:RcP) (r':Rc) (w:World) (e:Ending) (w':World):Prop:=
 e=.returned (.tuple #[])∧∃ p',Bx w' B (rcC r' p'.A)∧RcG w' r' p'∧FrP (fun q=>q=B∨rbs p r q) w w'∧(∀ q,rbs p' r' q→rbs p r q∨w.1.size≤q)∧p'.A.wa=p.A.wa∧p'.A.wc=p.A.wc
theorem hold_dskW (D B qh:Nat) (m:Ms) (ma:Option Addr) (mc:Nat) (r:Rc) (p:RcP) (w:World) (h:DskAt w D B qh m ma mc r p) (m2:Ms) (hn:m2.n=0) (w0:World) (hb:Below w0.1.size w0 w) :
  Calls Tryz.prog 150 #[msV m2 none 0,.pointer (some ⟨qh,0,none⟩)] w fun e w'=>DoW B r p (Zo r m2) w0 e w':=by
 refine (hold_doW r p m2 none 0 0 B qh w h.bx h.ql h.qc h.g (fun k hk=>⟨(h.ap k hk).1,(h.ap k hk).2.1⟩) ⟨fun h=>absurd h (by omega),fun h=>absurd h (by omega)⟩ (fun h=>absurd hn h)).mono fun e w' ⟨he,p',x',g',f',s',k1,k2⟩=>⟨he,p',x',g',(FrP.of_below hb).trans2 f' (fun q _ e=>?_),fun q hq=>?_,k1,k2⟩
 ·rcases e with e|⟨e1,e2⟩
  ·exact Or.inl e
  ·exact Or.inr ⟨2,by omega,Or.inl ⟨Nat.pos_of_ne_zero e1,e2⟩⟩
 ·rcases s' q hq with h1|⟨h1,_⟩|h1
  ·exact Or.inl h1
  ·exact absurd hn h1
  ·exact Or.inr (ltr hb.size h1)
def beaReg3G (D B _qh:Nat) (m:Ms) (_ma:Option Addr) (_mc:Nat) (_r:Rc) (_p:RcP) (_R:World→Prop) (_W:World) (i:Nat) (v:Value) (_X:World):Prop:=
 match i with
 | 0=>v=.pointer (some ⟨D,0,none⟩)
 | 1=>v=.pointer (some ⟨D,0,none⟩)
 | 2=>v=.pointer (some ⟨D,0,none⟩)
 | 3=>v=.pointer (some ⟨B,0,none⟩)
 | 4=>v=.pointer (some ⟨D,0,none⟩)
 | 5=>v=.pointer (some ⟨D,0,none⟩)
 | 6=>v=.pointer (some ⟨D,1,none⟩)
 | 7=>v=.pointer (some ⟨D,4,none⟩)
 | 8=>v=.int .i64 m.bal
 | _=>True
set_option maxRecDepth 100000 in
theorem beaReg3 (p1 p2 p3 p4 p5 p6 p7 p8 p9 p10 p11 p12 p13 p14 p15 p16 p17 p18 p19 p20 p21 p22 p23 p33 p34 p35 p36 p37 p38 p39 p40 p41 p42 p43 p44 p45 p46 p47 p48 p49 p50 p51 p52 p53 p54 p55 p56 p57 p58 p59 p60 p61 p62 p63 p64 p65 p66 p67 p68 p69 p70 p71 p72 p73 p74 p75 p76 p77 p78 p79 p80 p81 p82 p83 p84 p85 p86 p87 p88 p89 p90 p91 p92 p93 p94 p95 p96 p97 p98 p99 p100 p101 p102 p103 p104 p105 p106 p107 p108 p109 p110 p111 p112 p113 p114 p115 p116 p117 p118 p119 p120 p121 p122 p123 p124 p125 p126 p127 p128:Value) (w0 w1 w2 w3 w4 w5 w6 w7 w8:Value) (D B qh:Nat) (m:Ms) (ma:Option Addr) (mc:Nat) (r:Rc) (p:RcP) (R:World→Prop) (W:World) (hD:D<W.1.size) (_hB:B<W.1.size) (cD0:W.cell? ⟨D,0,none⟩=some (.pointer (some ⟨B,0,none⟩))) (cD4:W.cell? ⟨D,4,none⟩=some (.int .i64 m.bal)) (hQc:∀ X,Below W.1.size W X→Calls Tryz.prog 152 #[.pointer (some ⟨B,0,none⟩),.int .i64 m.bal] X fun e w'=>e=.returned (.tuple #[])∧R w') (Q:Exit→Act→World→Prop) (hQ:∀ (t:Nat→Value) (v3:Value) X,R X→Q .normal ⟨#[.pointer (some ⟨D,0,none⟩),p1,p2,p3,p4,p5,p6,p7,p8,p9,p10,p11,p12,p13,p14,p15,p16,p17,p18,p19,p20,p21,p22,p23,t 0,t 1,t 2,t 3,t 4,t 5,t 6,t 7,t 8,v3,p34,p35,p36,p37,p38,p39,p40,p41,p42,p43,p44,p45,p46,p47,p48,p49,p50,p51,p52,p53,p54,p55,p56,p57,p58,p59,p60,p61,p62,p63,p64,p65,p66,p67,p68,p69,p70,p71,p72,p73,p74,p75,p76,p77,p78,p79,p80,p81,p82,p83,p84,p85,p86,p87,p88,p89,p90,p91,p92,p93,p94,p95,p96,p97,p98,p99,p100,p101,p102,p103,p104,p105,p106,p107,p108,p109,p110,p111,p112,p113,p114,p115,p116,p117,p118,p119,p120,p121,p122,p123,p124,p125,p126,p127,p128],[]⟩ X) :
  Code.wp Tryz.prog (Code.region 3 #[⟨some 24,.move (.tmp 0),151, "l14_rec_take.go:110",#[],none⟩,⟨some 25,.nilCheck (.tmp 24),0, "l14_rec_take.go:110",#[⟨0,.data⟩],none⟩,⟨some 26,.fieldAddr 134 (.tmp 25) 0,0, "l14_rec_take.go:110",#[⟨1,.data⟩],none⟩,⟨some 27,.load 81 (.tmp 26),81, "l14_rec_take.go:110",#[⟨2,.data⟩],none⟩,⟨some 28,.move (.tmp 0),151, "l14_rec_take.go:110",#[],none⟩,⟨some 29,.nilCheck (.tmp 28),0, "l14_rec_take.go:110",#[⟨4,.data⟩],none⟩,⟨some 30,.fieldAddr 134 (.tmp 29) 1,0, "l14_rec_take.go:110",#[⟨5,.data⟩],none⟩,⟨some 31,.fieldAddr 52 (.tmp 30) 3,0, "l14_rec_take.go:110",#[⟨6,.data⟩],none⟩,⟨some 32,.load 3 (.tmp 31),3, "l14_rec_take.go:110",#[⟨7,.data⟩],none⟩,⟨some 33,.call ⟨.value (.func 152),#[.tmp 27,.tmp 32],#[81,3]⟩,0, "l14_rec_take.go:110",#[⟨3,.data⟩,⟨8,.data⟩],none⟩] true) Q ⟨#[.pointer (some ⟨D,0,none⟩),p1,p2,p3,p4,p5,p6,p7,p8,p9,p10,p11,p12,p13,p14,p15,p16,p17,p18,p19,p20,p21,p22,p23,w0,w1,w2,w3,w4,w5,w6,w7,w8,p33,p34,p35,p36,p37,p38,p39,p40,p41,p42,p43,p44,p45,p46,p47,p48,p49,p50,p51,p52,p53,p54,p55,p56,p57,p58,p59,p60,p61,p62,p63,p64,p65,p66,p67,p68,p69,p70,p71,p72,p73,p74,p75,p76,p77,p78,p79,p80,p81,p82,p83,p84,p85,p86,p87,p88,p89,p90,p91,p92,p93,p94,p95,p96,p97,p98,p99,p100,p101,p102,p103,p104,p105,p106,p107,p108,p109,p110,p111,p112,p113,p114,p115,p116,p117,p118,p119,p120,p121,p122,p123,p124,p125,p126,p127,p128],[]⟩ W:=by
 refine ZL (by kernel_rfl) 9 (fun t:Nat→Value=>#[.pointer (some ⟨D,0,none⟩),p1,p2,p3,p4,p5,p6,p7,p8,p9,p10,p11,p12,p13,p14,p15,p16,p17,p18,p19,p20,p21,p22,p23,t 0,t 1,t 2,t 3,t 4,t 5,t 6,t 7,t 8,p33,p34,p35,p36,p37,p38,p39,p40,p41,p42,p43,p44,p45,p46,p47,p48,p49,p50,p51,p52,p53,p54,p55,p56,p57,p58,p59,p60,p61,p62,p63,p64,p65,p66,p67,p68,p69,p70,p71,p72,p73,p74,p75,p76,p77,p78,p79,p80,p81,p82,p83,p84,p85,p86,p87,p88,p89,p90,p91,p92,p93,p94,p95,p96,p97,p98,p99,p100,p101,p102,p103,p104,p105,p106,p107,p108,p109,p110,p111,p112,p113,p114,p115,p116,p117,p118,p119,p120,p121,p122,p123,p124,p125,p126,p127,p128]) (fun i=>match i with|0=>w0|1=>w1|2=>w2|3=>w3|4=>w4|5=>w5|6=>w6|7=>w7|_=>w8) (beaReg3G D B qh m ma mc r p R W) (fun a X=>∃ (t:Nat→Value) (v3:Value),a=⟨#[.pointer (some ⟨D,0,none⟩),p1,p2,p3,p4,p5,p6,p7,p8,p9,p10,p11,p12,p13,p14,p15,p16,p17,p18,p19,p20,p21,p22,p23,t 0,t 1,t 2,t 3,t 4,t 5,t 6,t 7,t 8,v3,p34,p35,p36,p37,p38,p39,p40,p41,p42,p43,p44,p45,p46,p47,p48,p49,p50,p51,p52,p53,p54,p55,p56,p57,p58,p59,p60,p61,p62,p63,p64,p65,p66,p67,p68,p69,p70,p71,p72,p73,p74,p75,p76,p77,p78,p79,p80,p81,p82,p83,p84,p85,p86,p87,p88,p89,p90,p91,p92,p93,p94,p95,p96,p97,p98,p99,p100,p101,p102,p103,p104,p105,p106,p107,p108,p109,p110,p111,p112,p113,p114,p115,p116,p117,p118,p119,p120,p121,p122,p123,p124,p125,p126,p127,p128],[]⟩∧R X) (by kernel_rfl) (by kernel_rfl) (by kernel_rfl) ?_ rfl ?_ ?_ ?_
 ·exact fun _ _ _ _ _ h _=>h
 ·intro i hi t X K hb hg hK
  rcases (show i=0∨i=1∨i=2∨i=3∨i=4∨i=5∨i=6∨i=7∨i=8 by omega) with rfl|rfl|rfl|rfl|rfl|rfl|rfl|rfl|rfl
  ·exact sg
  ·have ea:t 0=.pointer (some ⟨D,0,none⟩):=hg 0 (Wt rfl)
   exact sg
  ·have ea:t 1=.pointer (some ⟨D,0,none⟩):=hg 1 (Wt rfl)
   exact sg
  ·have ea:t 2=.pointer (some ⟨D,0,none⟩):=hg 2 (Wt rfl)
   have f1:=(hb.cell (p:=⟨D,0,none⟩) hD).trans cD0
   exact sg
  ·exact sg
  ·have ea:t 4=.pointer (some ⟨D,0,none⟩):=hg 4 (Wt rfl)
   exact sg
  ·have ea:t 5=.pointer (some ⟨D,0,none⟩):=hg 5 (Wt rfl)
   exact sg
  ·have ea:t 6=.pointer (some ⟨D,1,none⟩):=hg 6 (Wt rfl)
   exact sg
  ·have ea:t 7=.pointer (some ⟨D,4,none⟩):=hg 7 (Wt rfl)
   have f1:=(hb.cell (p:=⟨D,4,none⟩) hD).trans cD4
   exact sg
 ·intro t X K hb hg hK
  have e3:t 3=.pointer (some ⟨B,0,none⟩):=hg 3 (by omega)
  have e8:t 8=.int .i64 m.bal:=hg 8 (by omega)
  refine Zi rfl rfl ?_
  have HK:=hid hK
  have HC:=hid (hQc X hb)
  clear hK hg hQc
  simp only [e3,e8]
  go_simp
  go_at_call 152
  refine HC.out.mono ?_
  rintro e Y ⟨rfl,hR⟩
  have h:=HK.out _ Y ⟨t,.tuple #[],rfl,hR⟩
  simpa [e3,e8] using h
 ·rintro a X ⟨t,v3,rfl,hp⟩
  exact hQ t v3 X hp
def beaReg8G (D B qh:Nat) (m:Ms) (_ma:Option Addr) (_mc:Nat) (r:Rc) (_p:RcP) (_R:World→Prop) (_W:World) (i:Nat) (v:Value) (_X:World):Prop:=
 match i with
 | 0=>v=.pointer (some ⟨D,0,none⟩)
 | 1=>v=.pointer (some ⟨D,0,none⟩)
 | 2=>v=.pointer (some ⟨D,9,none⟩)
 | 3=>v=.func (.func 150) #[] #[.pointer (some ⟨qh,0,none⟩)]
 | 4=>v=.pointer (some ⟨D,0,none⟩)
 | 5=>v=.pointer (some ⟨D,0,none⟩)
 | 6=>v=.pointer (some ⟨D,1,none⟩)
 | 7=>v=.pointer (some ⟨D,2,none⟩)
 | 8=>v=.int .i64 m.from_
 | 9=>v=.pointer (some ⟨D,0,none⟩)
 | 10=>v=.pointer (some ⟨D,0,none⟩)
 | 11=>v=.pointer (some ⟨D,1,none⟩)
 | 12=>v=.pointer (some ⟨D,4,none⟩)
 | 13=>v=.int .i64 m.bal
 | 14=>v=.pointer (some ⟨B,6,none⟩)
 | 15=>v=.pointer (some ⟨B,6,none⟩)
 | 16=>v=.pointer (some ⟨B,7,none⟩)
 | 17=>v=.int .i64 r.dk.kn
 | 18=>v=.int .i64 (r.dk.kn+1)
 | 19=>v=.agg #[.int .i64 7,.int .i64 0,.int .i64 m.from_,.int .i64 m.bal,.int .i64 (r.dk.kn+1),.int .i64 0,.string ⟨#[]⟩,.slice none 0 0]
 | _=>True
set_option maxRecDepth 100000 in
theorem beaReg8 (p1 p3 p4 p5 p6 p7 p8 p9 p10 p11 p12 p13 p14 p15 p16 p17 p18 p19 p20 p21 p22 p23 p24 p25 p26 p27 p28 p29 p30 p31 p32 p33 p34 p35 p36 p37 p38 p39 p40 p41 p42 p43 p44 p45 p46 p47 p48 p49 p50 p51 p52 p53 p54 p55 p56 p57 p58 p59 p60 p61 p62 p63 p64 p65 p66 p67 p68 p69 p70 p71 p72 p73 p74 p75 p76 p77 p78 p79 p80 p81 p82 p103 p104 p105 p106 p107 p108 p109 p110 p111 p112 p113 p114 p115 p116 p117 p118 p119 p120 p121 p122 p123 p124 p125 p126 p127 p128:Value) (w0 w1 w2 w3 w4 w5 w6 w7 w8 w9 w10 w11 w12 w13 w14 w15 w16 w17 w18 w19:Value) (D B qh:Nat) (m:Ms) (ma:Option Addr) (mc:Nat) (r:Rc) (p:RcP) (R:World→Prop) (W:World) (hk:0≤r.dk.kn∧r.dk.kn≤60) (hD:D<W.1.size) (hB:B<W.1.size) (cB7:W.cell? ⟨B,7,none⟩=some (.int .i64 r.dk.kn)) (cD2:W.cell? ⟨D,2,none⟩=some (.int .i64 m.from_)) (cD4:W.cell? ⟨D,4,none⟩=some (.int .i64 m.bal)) (cD9:W.cell? ⟨D,9,none⟩=some (.func (.func 150) #[] #[.pointer (some ⟨qh,0,none⟩)])) (hQc:∀ X,Below W.1.size W X→Calls Tryz.prog 150 #[.agg #[.int .i64 7,.int .i64 0,.int .i64 m.from_,.int .i64 m.bal,.int .i64 (r.dk.kn+1),.int .i64 0,.string ⟨#[]⟩,.slice none 0 0],.pointer (some ⟨qh,0,none⟩)] X fun e w'=>e=.returned (.tuple #[])∧R w') (Q:Exit→Act→World→Prop) (hQ:∀ (t:Nat→Value) (v3:Value) X,R X→Q .normal ⟨#[.pointer (some ⟨D,0,none⟩),p1,.pointer (some ⟨B,6,none⟩),p3,p4,p5,p6,p7,p8,p9,p10,p11,p12,p13,p14,p15,p16,p17,p18,p19,p20,p21,p22,p23,p24,p25,p26,p27,p28,p29,p30,p31,p32,p33,p34,p35,p36,p37,p38,p39,p40,p41,p42,p43,p44,p45,p46,p47,p48,p49,p50,p51,p52,p53,p54,p55,p56,p57,p58,p59,p60,p61,p62,p63,p64,p65,p66,p67,p68,p69,p70,p71,p72,p73,p74,p75,p76,p77,p78,p79,p80,p81,p82,t 0,t 1,t 2,t 3,t 4,t 5,t 6,t 7,t 8,t 9,t 10,t 11,t 12,t 13,t 14,t 15,t 16,t 17,t 18,t 19,v3,p104,p105,p106,p107,p108,p109,p110,p111,p112,p113,p114,p115,p116,p117,p118,p119,p120,p121,p122,p123,p124,p125,p126,p127,p128],[]⟩ X) :
  Code.wp Tryz.prog (Code.region 8 #[⟨some 83,.move (.tmp 0),151, "l14_rec_take.go:116",#[],none⟩,⟨some 84,.nilCheck (.tmp 83),0, "l14_rec_take.go:116",#[⟨0,.data⟩],none⟩,⟨some 85,.fieldAddr 134 (.tmp 84) 2,0, "l14_rec_take.go:116",#[⟨1,.data⟩],none⟩,⟨some 86,.load 131 (.tmp 85),131, "l14_rec_take.go:116",#[⟨2,.data⟩],none⟩,⟨some 87,.move (.tmp 0),151, "l14_rec_take.go:116",#[],none⟩,⟨some 88,.nilCheck (.tmp 87),0, "l14_rec_take.go:116",#[⟨4,.data⟩],none⟩,⟨some 89,.fieldAddr 134 (.tmp 88) 1,0, "l14_rec_take.go:116",#[⟨5,.data⟩],none⟩,⟨some 90,.fieldAddr 52 (.tmp 89) 1,0, "l14_rec_take.go:116",#[⟨6,.data⟩],none⟩,⟨some 91,.load 3 (.tmp 90),3, "l14_rec_take.go:116",#[⟨7,.data⟩],none⟩,⟨some 92,.move (.tmp 0),151, "l14_rec_take.go:116",#[],none⟩,⟨some 93,.nilCheck (.tmp 92),0, "l14_rec_take.go:116",#[⟨9,.data⟩],none⟩,⟨some 94,.fieldAddr 134 (.tmp 93) 1,0, "l14_rec_take.go:116",#[⟨10,.data⟩],none⟩,⟨some 95,.fieldAddr 52 (.tmp 94) 3,0, "l14_rec_take.go:116",#[⟨11,.data⟩],none⟩,⟨some 96,.load 3 (.tmp 95),3, "l14_rec_take.go:116",#[⟨12,.data⟩],none⟩,⟨some 97,.move (.tmp 2),155, "l14_rec_take.go:116",#[],none⟩,⟨some 98,.nilCheck (.tmp 97),0, "l14_rec_take.go:116",#[⟨14,.data⟩],none⟩,⟨some 99,.fieldAddr 34 (.tmp 98) 1,0, "l14_rec_take.go:116",#[⟨15,.data⟩],none⟩,⟨some 100,.load 3 (.tmp 99),3, "l14_rec_take.go:116",#[⟨16,.data⟩],none⟩,⟨some 101,.binOp .add 3 (.tmp 100) (.const (.int .i64 1)) 3,3, "l14_rec_take.go:116",#[⟨17,.data⟩],none⟩,⟨some 102,.build 52 #[(0,.const (.int .i64 7)),(2,.tmp 91),(3,.tmp 96),(4,.tmp 101)],52, "l14_rec_take.go:116",#[⟨8,.data⟩,⟨13,.data⟩,⟨18,.data⟩],none⟩,⟨some 103,.call ⟨.value (.tmp 86),#[.tmp 102],#[52]⟩,0, "l14_rec_take.go:116",#[⟨3,.data⟩,⟨19,.data⟩],none⟩] true) Q ⟨#[.pointer (some ⟨D,0,none⟩),p1,.pointer (some ⟨B,6,none⟩),p3,p4,p5,p6,p7,p8,p9,p10,p11,p12,p13,p14,p15,p16,p17,p18,p19,p20,p21,p22,p23,p24,p25,p26,p27,p28,p29,p30,p31,p32,p33,p34,p35,p36,p37,p38,p39,p40,p41,p42,p43,p44,p45,p46,p47,p48,p49,p50,p51,p52,p53,p54,p55,p56,p57,p58,p59,p60,p61,p62,p63,p64,p65,p66,p67,p68,p69,p70,p71,p72,p73,p74,p75,p76,p77,p78,p79,p80,p81,p82,w0,w1,w2,w3,w4,w5,w6,w7,w8,w9,w10,w11,w12,w13,w14,w15,w16,w17,w18,w19,p103,p104,p105,p106,p107,p108,p109,p110,p111,p112,p113,p114,p115,p116,p117,p118,p119,p120,p121,p122,p123,p124,p125,p126,p127,p128],[]⟩ W:=by
 refine ZL (by kernel_rfl) 20 (fun t:Nat→Value=>#[.pointer (some ⟨D,0,none⟩),p1,.pointer (some ⟨B,6,none⟩),p3,p4,p5,p6,p7,p8,p9,p10,p11,p12,p13,p14,p15,p16,p17,p18,p19,p20,p21,p22,p23,p24,p25,p26,p27,p28,p29,p30,p31,p32,p33,p34,p35,p36,p37,p38,p39,p40,p41,p42,p43,p44,p45,p46,p47,p48,p49,p50,p51,p52,p53,p54,p55,p56,p57,p58,p59,p60,p61,p62,p63,p64,p65,p66,p67,p68,p69,p70,p71,p72,p73,p74,p75,p76,p77,p78,p79,p80,p81,p82,t 0,t 1,t 2,t 3,t 4,t 5,t 6,t 7,t 8,t 9,t 10,t 11,t 12,t 13,t 14,t 15,t 16,t 17,t 18,t 19,p103,p104,p105,p106,p107,p108,p109,p110,p111,p112,p113,p114,p115,p116,p117,p118,p119,p120,p121,p122,p123,p124,p125,p126,p127,p128]) (fun i=>match i with|0=>w0|1=>w1|2=>w2|3=>w3|4=>w4|5=>w5|6=>w6|7=>w7|8=>w8|9=>w9|10=>w10|11=>w11|12=>w12|13=>w13|14=>w14|15=>w15|16=>w16|17=>w17|18=>w18|_=>w19) (beaReg8G D B qh m ma mc r p R W) (fun a X=>∃ (t:Nat→Value) (v3:Value),a=⟨#[.pointer (some ⟨D,0,none⟩),p1,.pointer (some ⟨B,6,none⟩),p3,p4,p5,p6,p7,p8,p9,p10,p11,p12,p13,p14,p15,p16,p17,p18,p19,p20,p21,p22,p23,p24,p25,p26,p27,p28,p29,p30,p31,p32,p33,p34,p35,p36,p37,p38,p39,p40,p41,p42,p43,p44,p45,p46,p47,p48,p49,p50,p51,p52,p53,p54,p55,p56,p57,p58,p59,p60,p61,p62,p63,p64,p65,p66,p67,p68,p69,p70,p71,p72,p73,p74,p75,p76,p77,p78,p79,p80,p81,p82,t 0,t 1,t 2,t 3,t 4,t 5,t 6,t 7,t 8,t 9,t 10,t 11,t 12,t 13,t 14,t 15,t 16,t 17,t 18,t 19,v3,p104,p105,p106,p107,p108,p109,p110,p111,p112,p113,p114,p115,p116,p117,p118,p119,p120,p121,p122,p123,p124,p125,p126,p127,p128],[]⟩∧R X) (by kernel_rfl) (by kernel_rfl) (by kernel_rfl) ?_ rfl ?_ ?_ ?_
 ·exact fun _ _ _ _ _ h _=>h
 ·intro i hi t X K hb hg hK
  rcases (show i=0∨i=1∨i=2∨i=3∨i=4∨i=5∨i=6∨i=7∨i=8∨i=9∨i=10∨i=11∨i=12∨i=13∨i=14∨i=15∨i=16∨i=17∨i=18∨i=19 by omega) with rfl|rfl|rfl|rfl|rfl|rfl|rfl|rfl|rfl|rfl|rfl|rfl|rfl|rfl|rfl|rfl|rfl|rfl|rfl|rfl
  ·exact sg
  ·have ea:t 0=.pointer (some ⟨D,0,none⟩):=hg 0 (Wt rfl)
   exact sg
  ·have ea:t 1=.pointer (some ⟨D,0,none⟩):=hg 1 (Wt rfl)
   exact sg
  ·have ea:t 2=.pointer (some ⟨D,9,none⟩):=hg 2 (Wt rfl)
   have f1:=(hb.cell (p:=⟨D,9,none⟩) hD).trans cD9
   exact sg
  ·exact sg
  ·have ea:t 4=.pointer (some ⟨D,0,none⟩):=hg 4 (Wt rfl)
   exact sg
  ·have ea:t 5=.pointer (some ⟨D,0,none⟩):=hg 5 (Wt rfl)
   exact sg
  ·have ea:t 6=.pointer (some ⟨D,1,none⟩):=hg 6 (Wt rfl)
   exact sg
  ·have ea:t 7=.pointer (some ⟨D,2,none⟩):=hg 7 (Wt rfl)
   have f1:=(hb.cell (p:=⟨D,2,none⟩) hD).trans cD2
   exact sg
  ·exact sg
  ·have ea:t 9=.pointer (some ⟨D,0,none⟩):=hg 9 (Wt rfl)
   exact sg
  ·have ea:t 10=.pointer (some ⟨D,0,none⟩):=hg 10 (Wt rfl)
   exact sg
  ·have ea:t 11=.pointer (some ⟨D,1,none⟩):=hg 11 (Wt rfl)
   exact sg
  ·have ea:t 12=.pointer (some ⟨D,4,none⟩):=hg 12 (Wt rfl)
   have f1:=(hb.cell (p:=⟨D,4,none⟩) hD).trans cD4
   exact sg
  ·exact sg
  ·have ea:t 14=.pointer (some ⟨B,6,none⟩):=hg 14 (Wt rfl)
   exact sg
  ·have ea:t 15=.pointer (some ⟨B,6,none⟩):=hg 15 (Wt rfl)
   exact sg
  ·have ea:t 16=.pointer (some ⟨B,7,none⟩):=hg 16 (Wt rfl)
   have f1:=(hb.cell (p:=⟨B,7,none⟩) hB).trans cB7
   exact sg
  ·have e17:t 17=.int .i64 r.dk.kn:=hg 17 (Wt rfl)
   have e9:t 17=.int .i64 r.dk.kn:=hg 17 (Wt rfl)
   have hk1:=hk.1
   have hk2:=hk.2
   have h:=hK _ X rfl (br _ _)
   refine Zi rfl rfl ?_
   clear hK hg
   have hw:IntKind.i64.wrap (r.dk.kn+1)=r.dk.kn+1:=by rw [IntKind.wrap_i64];omega
   simp only [e9]
   go_simp
   simpa [updT,e9,hw] using h
  ·have ea:t 8=.int .i64 m.from_:=hg 8 (Wt rfl)
   have eb:t 13=.int .i64 m.bal:=hg 13 (Wt rfl)
   have ec:t 18=.int .i64 (r.dk.kn+1):=hg 18 (Wt rfl)
   exact sg
 ·intro t X K hb hg hK
  have e19:t 19=.agg #[.int .i64 7,.int .i64 0,.int .i64 m.from_,.int .i64 m.bal,.int .i64 (r.dk.kn+1),.int .i64 0,.string ⟨#[]⟩,.slice none 0 0]:=hg 19 (by omega)
  have e3:t 3=.func (.func 150) #[] #[.pointer (some ⟨qh,0,none⟩)]:=hg 3 (by omega)
  refine Zi rfl rfl ?_
  have HK:=hid hK
  have HC:=hid (hQc X hb)
  clear hK hg hQc
  simp only [e19,e3]
  go_simp
  go_at_call 150
  refine HC.out.mono ?_
  rintro e Y ⟨rfl,hR⟩
  have h:=HK.out _ Y ⟨t,.tuple #[],rfl,hR⟩
  simpa [e19,e3] using h
 ·rintro a X ⟨t,v3,rfl,hp⟩
  exact hQ t v3 X hp
def beaReg12G (tx:ByteArray) (D _B qh:Nat) (m:Ms) (_ma:Option Addr) (_mc:Nat) (_r:Rc) (_p:RcP) (_R:World→Prop) (_W:World) (i:Nat) (v:Value) (_X:World):Prop:=
 match i with
 | 0=>v=.pointer (some ⟨D,0,none⟩)
 | 1=>v=.pointer (some ⟨D,0,none⟩)
 | 2=>v=.pointer (some ⟨D,9,none⟩)
 | 3=>v=.func (.func 150) #[] #[.pointer (some ⟨qh,0,none⟩)]
 | 4=>v=.pointer (some ⟨D,0,none⟩)
 | 5=>v=.pointer (some ⟨D,0,none⟩)
 | 6=>v=.pointer (some ⟨D,1,none⟩)
 | 7=>v=.pointer (some ⟨D,2,none⟩)
 | 8=>v=.int .i64 m.from_
 | 9=>v=.string tx
 | 10=>v=.agg #[.int .i64 8,.int .i64 0,.int .i64 m.from_,.int .i64 0,.int .i64 0,.int .i64 0,.string tx,.slice none 0 0]
 | _=>True
set_option maxRecDepth 100000 in
theorem beaReg12 (p1 p2 p3 p5 p6 p7 p8 p9 p10 p11 p12 p13 p14 p15 p16 p17 p18 p19 p20 p21 p22 p23 p24 p25 p26 p27 p28 p29 p30 p31 p32 p33 p34 p35 p36 p37 p38 p39 p40 p41 p42 p43 p44 p45 p46 p47 p48 p49 p50 p51 p52 p53 p54 p55 p56 p57 p58 p59 p60 p61 p62 p63 p64 p65 p66 p67 p68 p69 p70 p71 p72 p73 p74 p75 p76 p77 p78 p79 p80 p81 p82 p83 p84 p85 p86 p87 p88 p89 p90 p91 p92 p93 p94 p95 p96 p97 p98 p99 p100 p101 p102 p103 p104 p105 p106 p107 p108 p109 p110 p111 p112 p113 p114 p115 p127 p128:Value) (w0 w1 w2 w3 w4 w5 w6 w7 w8 w9 w10:Value) (tx:ByteArray) (D B qh:Nat) (m:Ms) (ma:Option Addr) (mc:Nat) (r:Rc) (p:RcP) (R:World→Prop) (W:World) (hD:D<W.1.size) (_hB:B<W.1.size) (cD2:W.cell? ⟨D,2,none⟩=some (.int .i64 m.from_)) (cD9:W.cell? ⟨D,9,none⟩=some (.func (.func 150) #[] #[.pointer (some ⟨qh,0,none⟩)])) (hQc:∀ X,Below W.1.size W X→Calls Tryz.prog 150 #[.agg #[.int .i64 8,.int .i64 0,.int .i64 m.from_,.int .i64 0,.int .i64 0,.int .i64 0,.string tx,.slice none 0 0],.pointer (some ⟨qh,0,none⟩)] X fun e w'=>e=.returned (.tuple #[])∧R w') (Q:Exit→Act→World→Prop) (hQ:∀ (t:Nat→Value) (v3:Value) X,R X→Q .normal ⟨#[.pointer (some ⟨D,0,none⟩),p1,p2,p3,.string tx,p5,p6,p7,p8,p9,p10,p11,p12,p13,p14,p15,p16,p17,p18,p19,p20,p21,p22,p23,p24,p25,p26,p27,p28,p29,p30,p31,p32,p33,p34,p35,p36,p37,p38,p39,p40,p41,p42,p43,p44,p45,p46,p47,p48,p49,p50,p51,p52,p53,p54,p55,p56,p57,p58,p59,p60,p61,p62,p63,p64,p65,p66,p67,p68,p69,p70,p71,p72,p73,p74,p75,p76,p77,p78,p79,p80,p81,p82,p83,p84,p85,p86,p87,p88,p89,p90,p91,p92,p93,p94,p95,p96,p97,p98,p99,p100,p101,p102,p103,p104,p105,p106,p107,p108,p109,p110,p111,p112,p113,p114,p115,t 0,t 1,t 2,t 3,t 4,t 5,t 6,t 7,t 8,t 9,t 10,v3,p128],[]⟩ X) :
  Code.wp Tryz.prog (Code.region 12 #[⟨some 116,.move (.tmp 0),151, "l14_rec_take.go:119",#[],none⟩,⟨some 117,.nilCheck (.tmp 116),0, "l14_rec_take.go:119",#[⟨0,.data⟩],none⟩,⟨some 118,.fieldAddr 134 (.tmp 117) 2,0, "l14_rec_take.go:119",#[⟨1,.data⟩],none⟩,⟨some 119,.load 131 (.tmp 118),131, "l14_rec_take.go:119",#[⟨2,.data⟩],none⟩,⟨some 120,.move (.tmp 0),151, "l14_rec_take.go:119",#[],none⟩,⟨some 121,.nilCheck (.tmp 120),0, "l14_rec_take.go:119",#[⟨4,.data⟩],none⟩,⟨some 122,.fieldAddr 134 (.tmp 121) 1,0, "l14_rec_take.go:119",#[⟨5,.data⟩],none⟩,⟨some 123,.fieldAddr 52 (.tmp 122) 1,0, "l14_rec_take.go:119",#[⟨6,.data⟩],none⟩,⟨some 124,.load 3 (.tmp 123),3, "l14_rec_take.go:119",#[⟨7,.data⟩],none⟩,⟨some 125,.move (.tmp 4),9, "l14_rec_take.go:119",#[],none⟩,⟨some 126,.build 52 #[(0,.const (.int .i64 8)),(2,.tmp 124),(6,.tmp 125)],52, "l14_rec_take.go:119",#[⟨8,.data⟩,⟨9,.data⟩],none⟩,⟨some 127,.call ⟨.value (.tmp 119),#[.tmp 126],#[52]⟩,0, "l14_rec_take.go:119",#[⟨3,.data⟩,⟨10,.data⟩],none⟩] true) Q ⟨#[.pointer (some ⟨D,0,none⟩),p1,p2,p3,.string tx,p5,p6,p7,p8,p9,p10,p11,p12,p13,p14,p15,p16,p17,p18,p19,p20,p21,p22,p23,p24,p25,p26,p27,p28,p29,p30,p31,p32,p33,p34,p35,p36,p37,p38,p39,p40,p41,p42,p43,p44,p45,p46,p47,p48,p49,p50,p51,p52,p53,p54,p55,p56,p57,p58,p59,p60,p61,p62,p63,p64,p65,p66,p67,p68,p69,p70,p71,p72,p73,p74,p75,p76,p77,p78,p79,p80,p81,p82,p83,p84,p85,p86,p87,p88,p89,p90,p91,p92,p93,p94,p95,p96,p97,p98,p99,p100,p101,p102,p103,p104,p105,p106,p107,p108,p109,p110,p111,p112,p113,p114,p115,w0,w1,w2,w3,w4,w5,w6,w7,w8,w9,w10,p127,p128],[]⟩ W:=by
 refine ZL (by kernel_rfl) 11 (fun t:Nat→Value=>#[.pointer (some ⟨D,0,none⟩),p1,p2,p3,.string tx,p5,p6,p7,p8,p9,p10,p11,p12,p13,p14,p15,p16,p17,p18,p19,p20,p21,p22,p23,p24,p25,p26,p27,p28,p29,p30,p31,p32,p33,p34,p35,p36,p37,p38,p39,p40,p41,p42,p43,p44,p45,p46,p47,p48,p49,p50,p51,p52,p53,p54,p55,p56,p57,p58,p59,p60,p61,p62,p63,p64,p65,p66,p67,p68,p69,p70,p71,p72,p73,p74,p75,p76,p77,p78,p79,p80,p81,p82,p83,p84,p85,p86,p87,p88,p89,p90,p91,p92,p93,p94,p95,p96,p97,p98,p99,p100,p101,p102,p103,p104,p105,p106,p107,p108,p109,p110,p111,p112,p113,p114,p115,t 0,t 1,t 2,t 3,t 4,t 5,t 6,t 7,t 8,t 9,t 10,p127,p128]) (fun i=>match i with|0=>w0|1=>w1|2=>w2|3=>w3|4=>w4|5=>w5|6=>w6|7=>w7|8=>w8|9=>w9|_=>w10) (beaReg12G tx D B qh m ma mc r p R W) (fun a X=>∃ (t:Nat→Value) (v3:Value),a=⟨#[.pointer (some ⟨D,0,none⟩),p1,p2,p3,.string tx,p5,p6,p7,p8,p9,p10,p11,p12,p13,p14,p15,p16,p17,p18,p19,p20,p21,p22,p23,p24,p25,p26,p27,p28,p29,p30,p31,p32,p33,p34,p35,p36,p37,p38,p39,p40,p41,p42,p43,p44,p45,p46,p47,p48,p49,p50,p51,p52,p53,p54,p55,p56,p57,p58,p59,p60,p61,p62,p63,p64,p65,p66,p67,p68,p69,p70,p71,p72,p73,p74,p75,p76,p77,p78,p79,p80,p81,p82,p83,p84,p85,p86,p87,p88,p89,p90,p91,p92,p93,p94,p95,p96,p97,p98,p99,p100,p101,p102,p103,p104,p105,p106,p107,p108,p109,p110,p111,p112,p113,p114,p115,t 0,t 1,t 2,t 3,t 4,t 5,t 6,t 7,t 8,t 9,t 10,v3,p128],[]⟩∧R X) (by kernel_rfl) (by kernel_rfl) (by kernel_rfl) ?_ rfl ?_ ?_ ?_
 ·exact fun _ _ _ _ _ h _=>h
 ·intro i hi t X K hb hg hK
  rcases (show i=0∨i=1∨i=2∨i=3∨i=4∨i=5∨i=6∨i=7∨i=8∨i=9∨i=10 by omega) with rfl|rfl|rfl|rfl|rfl|rfl|rfl|rfl|rfl|rfl|rfl
  ·exact sg
  ·have ea:t 0=.pointer (some ⟨D,0,none⟩):=hg 0 (Wt rfl)
   exact sg
  ·have ea:t 1=.pointer (some ⟨D,0,none⟩):=hg 1 (Wt rfl)
   exact sg
  ·have ea:t 2=.pointer (some ⟨D,9,none⟩):=hg 2 (Wt rfl)
   have f1:=(hb.cell (p:=⟨D,9,none⟩) hD).trans cD9
   exact sg
  ·exact sg
  ·have ea:t 4=.pointer (some ⟨D,0,none⟩):=hg 4 (Wt rfl)
   exact sg
  ·have ea:t 5=.pointer (some ⟨D,0,none⟩):=hg 5 (Wt rfl)
   exact sg
  ·have ea:t 6=.pointer (some ⟨D,1,none⟩):=hg 6 (Wt rfl)
   exact sg
  ·have ea:t 7=.pointer (some ⟨D,2,none⟩):=hg 7 (Wt rfl)
   have f1:=(hb.cell (p:=⟨D,2,none⟩) hD).trans cD2
   exact sg
  ·exact sg
  ·have ea:t 8=.int .i64 m.from_:=hg 8 (Wt rfl)
   have eb:t 9=.string tx:=hg 9 (Wt rfl)
   exact sg
 ·intro t X K hb hg hK
  have e10:t 10=.agg #[.int .i64 8,.int .i64 0,.int .i64 m.from_,.int .i64 0,.int .i64 0,.int .i64 0,.string tx,.slice none 0 0]:=hg 10 (by omega)
  have e3:t 3=.func (.func 150) #[] #[.pointer (some ⟨qh,0,none⟩)]:=hg 3 (by omega)
  refine Zi rfl rfl ?_
  have HK:=hid hK
  have HC:=hid (hQc X hb)
  clear hK hg hQc
  simp only [e10,e3]
  go_simp
  go_at_call 150
  refine HC.out.mono ?_
  rintro e Y ⟨rfl,hR⟩
  have h:=HK.out _ Y ⟨t,.tuple #[],rfl,hR⟩
  simpa [e10,e3] using h
 ·rintro a X ⟨t,v3,rfl,hp⟩
  exact hQ t v3 X hp
def JG (w:World) (b i:Nat):Nat:=match w.cell? ⟨b,i,none⟩ with|some (.int _ n)=>n.toNat|_=>0
def Jh (d:Dk) (b kn:Int):Nat→Nat→Nat
 | 0,j=>j
 | f+1,j=>if (j:Int)<kn∧(d.s j).bal=b then Jh d b kn f (j+1) else j
def beatN (r:Rc) (m:Ms):Rc:=if r.dk.kn<m.kn then Zo r ⟨7,0,m.from_,m.bal,r.dk.kn+1,0,⟨#[]⟩,0,fun _=>⟨0,⟨#[]⟩⟩⟩ else r
abbrev KO (r:Rc) (m:Ms) (k:Nat):Ms:=⟨8,0,m.from_,0,0,0,r.ws k,0,fun _=>⟨0,⟨#[]⟩⟩⟩
def YO (r:Rc) (m:Ms):Nat→Rc
 | 0=>r
 | k+1=>Zo (YO r m k) (KO (YO r m k) m k)
def beatK (r:Rc) (m:Ms):Nat:=Jh r.dk m.bal m.kn (r.dk.n-r.dk.kn.toNat) r.dk.kn.toNat
def XO (r:Rc) (m:Ms):Rc:=YO r m r.wn
def XN (r:Rc) (m:Ms):Rc:=if m.bal<r.dk.pr then Zo r ⟨9,0,m.from_,r.dk.pr,0,0,⟨#[]⟩,0,fun _=>⟨0,⟨#[]⟩⟩⟩ else if mayB r m=false then r else XO (beatN (knR (Zl r m.bal) (beatK (Zl r m.bal) m)) m) m
theorem Uo (r:Rc) (m:Ms):(Zo r m).wn=r.wn:=by unfold Zo;split<;>rfl
theorem Kl (r:Rc) (m:Ms):∀ k,(YO r m k).wn=r.wn
 | 0=>rfl
 | k+1=>(Uo _ _).trans (Kl r m k)
theorem follow_wn (r:Rc) (b:Int):(Zl r b).wn=r.wn:=by unfold Zl;split<;>rfl
theorem Xs (r:Rc) (b:Int):(Zl r b).dk.kn=r.dk.kn:=by unfold Zl;split<;>rfl
theorem beatA_go (d:Dk) (b kn:Int) (j:Nat) (hj:j<d.n) (h1:(j:Int)<kn) (h2:(d.s j).bal=b):Jh d b kn (d.n-j) j=Jh d b kn (d.n-(j+1)) (j+1):=by
 rw [show d.n-j=(d.n-(j+1))+1 by omega]
 exact if_pos ⟨h1,h2⟩
theorem Jc (d:Dk) (b kn:Int) (f j:Nat) (h:¬((j:Int)<kn∧(d.s j).bal=b)):Jh d b kn f j=j:=by
 cases f with
 | zero=>rfl
 | succ f=>exact if_neg h
theorem beatA_end (d:Dk) (b kn:Int) (j:Nat) (hj:¬j<d.n):Jh d b kn (d.n-j) j=j:=by
 rw [show d.n-j=0 by omega]
 rfl
theorem beatR_eq (r:Rc) (m:Ms) (h1:¬m.bal<r.dk.pr) (h3:mayB r m=true) (Z:Nat) (hZ:beatK (Zl r m.bal) m=Z):XN r m=XO (beatN (knR (Zl r m.bal) Z) m) m:=by
 unfold XN
 rw [if_neg h1,if_neg (by rw [h3];simp),hZ]
theorem apRa0 {P:Prop} (h:P:=by
  have EA:=hid eA
  clear eA
  go_wp2
  clear hcw
  refine beaReg12 _ _ _ _ _ _ _ _ _ _ _ _ _ _ _ _ _ _ _ _ _ _ _ _ _ _ _ _ _ _ _ _ _ _ _ _ _ _ _ _ _ _ _ _ _ _ _ _ _ _ _ _ _ _ _ _ _ _ _ _ _ _ _ _ _ _ _ _ _ _ _ _ _ _ _ _ _ _ _ _ _ _ _ _ _ _ _ _ _ _ _ _ _ _ _ _ _ _ _ _ _ _ _ _ _ _ _ _ _ _ _ _ _ _ _ _ _ _ _ _ _ _ _ _ _ _ _ (rk.ws k) D B qh m ma mc rk pk (fun w'=>DoW B rk pk (Zo rk (KO rk m k)) wr (.returned (.tuple #[])) w') wr HK.out.dk.lt HK.out.bx.lt (HK.out.dk.cell 2) (HK.out.dk.cell 9) (fun X hb=>(hold_dskW D B qh m ma mc rk pk X (HK.out.grow hb) (KO rk m k) rfl wr hb).mono fun e w' hd=>⟨hd.1,by have h9:=hd;rw [hd.1] at h9;exact h9⟩) _ ?_
  intro t9 v9 wz hdo
  have HD:=hid hdo
  clear hdo
  go_wp2
  go_roundw
  case rel=>
   obtain ⟨_,p4,x4,g4,f4,s4,a4,c4⟩:=HD.out
   obtain ⟨_,p5,x5,g5,f5,s5⟩:=DoR.then HF.out HS.out (show DoR B rk pk (Zo rk (KO rk m k)) wr (.returned (.tuple #[])) wz from ⟨rfl,p4,x4,g4,f4,s4⟩)
   have e1:=HRK.out
   subst e1
   exact ⟨k+1,p4,by omega,by go_num,HK.out.next x4 g4 f4 s4,f5,fun q hq=>by rcases s4 q hq with h|h;exact HS.out q h;exact Or.inr (ltr HF.out.size h),a4.trans EA.out,c4.trans HC1.out⟩
  case measure=>simp [intOf];omega):P:=h
set_option maxRecDepth 100000 in
theorem beat_do (D B qh:Nat) (m:Ms) (ma:Option Addr) (mc:Nat) (r:Rc) (p:RcP) (w:World) (h:DskAt w D B qh m ma mc r p) (hk:0≤r.dk.kn∧r.dk.kn≤r.dk.n∧r.dk.n≤60) (hwn:(r.wn:Int)≤100000) :
  Calls Tryz.prog 122 #[.pointer (some ⟨D,0,none⟩)] w fun e w'=>DoR B r p (XN r m) w e w':=by
 have H:=hid h
 clear h
 obtain ⟨hx0,hx1,hx2⟩:=hk
 by_cases h1:m.bal<r.dk.pr
 ·skip
  have HT:=hid (show XN r m=Zo r ⟨9,0,m.from_,r.dk.pr,0,0,⟨#[]⟩,0,fun _=>⟨0,⟨#[]⟩⟩⟩ from if_pos h1)
  rw [HT.out]
  go_enter Tryz.func122,Tryz.ntmps122
  go_wp2
  have sD0:=Zc (W1:=w) (p:=⟨D,0,none⟩) (v:=.pointer (some ⟨B,0,none⟩)) (H.out.dk.cell 0) H.out.dk.lt
  have sD4:=Zc (W1:=w) (p:=⟨D,4,none⟩) (v:=.int .i64 m.bal) (H.out.dk.cell 4) H.out.dk.lt
  have sB6:=Zc (W1:=w) (p:=⟨B,6,none⟩) (v:=.int .i64 r.dk.pr) (H.out.bx.cell 6) H.out.bx.lt
  have hne:Nonempty (GW w):=⟨⟨_,br _ _⟩⟩
  refine Zf (by kernel_rfl) (by kernel_rfl) ?_
  repeat (go_big_quiet_step (fail))
  refine wpQuiet_nil ?_
  rintro w8 ⟨u,hu⟩
  have hw8:Below w.1.size w w8:=hu▸u.prop
  clear hu u hne sD0 sD4 sB6
  have HW8:=hid hw8
  have H8:=hid (H.out.grow hw8)
  clear hw8
  have RF:=hid (UF D B qh m ma mc r p w8 H8.out)
  go_wp2_with (go_at_call 151;go_must (refine RF.out.mono ?_;rintro e w9 hd;have he:=hd.1;subst he;have HD:=hid (DskAt.after H.out HW8.out hd);clear hd))
  refine bodyPost_ret (v:=.tuple #[]) (results_none rfl _ _ _) rfl ?_
  exact HD.out
 ·cases h3:mayB r m with
  | false=>
   have h1z:decide (m.bal<r.dk.pr)=false:=decide_eq_false h1
   have HT:=hid (show XN r m=r from (if_neg h1).trans (if_pos h3))
   rw [HT.out]
   go_enter Tryz.func122,Tryz.ntmps122
   go_wp2
   have sD0:=Zc (W1:=w) (p:=⟨D,0,none⟩) (v:=.pointer (some ⟨B,0,none⟩)) (H.out.dk.cell 0) H.out.dk.lt
   have sD4:=Zc (W1:=w) (p:=⟨D,4,none⟩) (v:=.int .i64 m.bal) (H.out.dk.cell 4) H.out.dk.lt
   have sB6:=Zc (W1:=w) (p:=⟨B,6,none⟩) (v:=.int .i64 r.dk.pr) (H.out.bx.cell 6) H.out.bx.lt
   have hne:Nonempty (GW w):=⟨⟨_,br _ _⟩⟩
   refine Zf (by kernel_rfl) (by kernel_rfl) ?_
   repeat (go_big_quiet_step (fail))
   refine wpQuiet_nil ?_
   rintro w8 ⟨u,hu⟩
   have hw8:Below w.1.size w w8:=hu▸u.prop
   clear hu u hne sD0 sD4 sB6
   have HW8:=hid hw8
   have H8:=hid (H.out.grow hw8)
   clear hw8
   have MF:=hid (YF D B qh m ma mc r p w8 H8.out)
   rw [h3] at MF
   go_wp2_with (go_at_call 153;go_must (refine MF.out.mono ?_;rintro e w9 ⟨rfl,hb9⟩;have HB9:=hid (HW8.out.trans (hb9.mono HW8.out.size));clear hb9))
   refine bodyPost_ret (v:=.tuple #[]) (results_none rfl _ _ _) rfl ?_
   exact H.out.skip HB9.out
  | true=>
   have h1z:decide (m.bal<r.dk.pr)=false:=decide_eq_false h1
   obtain ⟨O,hO⟩:∃ O,XN r m=O:=⟨_,rfl⟩
   rw [hO]
   have HO:=hid hO
   clear hO
   have HQ:=hid (fun Z hZ=>beatR_eq r m h1 h3 Z hZ)
   go_enter Tryz.func122,Tryz.ntmps122
   go_wp2
   have sD0:=Zc (W1:=w) (p:=⟨D,0,none⟩) (v:=.pointer (some ⟨B,0,none⟩)) (H.out.dk.cell 0) H.out.dk.lt
   have sD4:=Zc (W1:=w) (p:=⟨D,4,none⟩) (v:=.int .i64 m.bal) (H.out.dk.cell 4) H.out.dk.lt
   have sB6:=Zc (W1:=w) (p:=⟨B,6,none⟩) (v:=.int .i64 r.dk.pr) (H.out.bx.cell 6) H.out.bx.lt
   have hne:Nonempty (GW w):=⟨⟨_,br _ _⟩⟩
   refine Zf (by kernel_rfl) (by kernel_rfl) ?_
   repeat (go_big_quiet_step (fail))
   refine wpQuiet_nil ?_
   rintro w8 ⟨u,hu⟩
   have hw8:Below w.1.size w w8:=hu▸u.prop
   clear hu u hne sD0 sD4 sB6
   have HW8:=hid hw8
   have H8:=hid (H.out.grow hw8)
   clear hw8
   have MF:=hid (YF D B qh m ma mc r p w8 H8.out)
   rw [h3] at MF
   go_wp2_with (go_at_call 153;go_must (refine MF.out.mono ?_;rintro e w9 ⟨rfl,hb9⟩;have H9:=hid (H8.out.grow hb9);have HB9:=hid (HW8.out.trans (hb9.mono HW8.out.size));clear hb9))
   refine beaReg3 _ _ _ _ _ _ _ _ _ _ _ _ _ _ _ _ _ _ _ _ _ _ _ _ _ _ _ _ _ _ _ _ _ _ _ _ _ _ _ _ _ _ _ _ _ _ _ _ _ _ _ _ _ _ _ _ _ _ _ _ _ _ _ _ _ _ _ _ _ _ _ _ _ _ _ _ _ _ _ _ _ _ _ _ _ _ _ _ _ _ _ _ _ _ _ _ _ _ _ _ _ _ _ _ _ _ _ _ _ _ _ _ _ _ _ _ _ _ _ _ _ _ _ _ _ _ _ _ D B qh m ma mc r p (fun w'=>DoR B r p (Zl r m.bal) w9 (.returned (.tuple #[])) w') w9 H9.out.dk.lt H9.out.bx.lt (H9.out.dk.cell 0) (H9.out.dk.cell 4) (fun X hb=>(Ja D B qh m ma mc r p X (H9.out.grow hb) m.bal).mono fun e w' hd=>⟨hd.1,by have h9:=DskAt.after H9.out hb hd;rw [hd.1] at h9;exact h9⟩) _ ?_
   intro twa vwa wa hdo
   obtain ⟨_,p1,x1,g1,f1,s1⟩:=hdo
   have Ha:=hid (H9.out.next x1 g1 f1 s1)
   have Fwa:=hid f1
   have Swa:=hid s1
   have Dwa:=hid (show DoR B r p (Zl r m.bal) w9 (.returned (.tuple #[])) wa from ⟨rfl,p1,x1,g1,f1,s1⟩)
   clear x1 g1 f1 s1
   have hn1:=Ke r m.bal
   have hw1:=follow_wn r m.bal
   have hq1:=Xs r m.bal
   obtain ⟨r1,hr1⟩:∃ r1,Zl r m.bal=r1:=⟨_,rfl⟩
   rw [hr1] at Ha Swa Dwa HQ hn1 hw1 hq1
   have HR1:=hid hr1
   clear hr1 h1 h1z h3 MF
   have hk0:0≤r1.dk.kn:=by omega
   have hk1:r1.dk.kn≤r1.dk.n:=by omega
   have hk2:r1.dk.n≤60:=by omega
   have hwn1:(r1.wn:Int)≤100000:=by omega
   clear hn1 hw1 hq1
   have HGO:=hid (show ∀ wr (j:Nat),FrP (fun q=>q=B) wa wr→Bx wr B (rcC (knR r1 (j:Int)) p1.A)→DskAt wr D B qh m ma mc (knR r1 (j:Int)) p1 from fun wr j fx bx=>Ha.out.next bx ((Ha.out.g.fr fx (fun q hq e=>(Ha.out.ap q hq).1 e)).kn _) (fx.mono (fun q hq=>Or.inl hq)) (fun q hq=>Or.inl hq))
   have HST:=hid (show Bx wa B (rcC (knR r1 (r1.dk.kn.toNat:Int)) p1.A) from by rw [Int.toNat_of_nonneg hk0];exact Ha.out.bx)
   obtain ⟨Z,hZ⟩:∃ Z,beatK r1 m=Z:=⟨_,rfl⟩
   have HZ:=hid hZ
   clear hZ
   have hDa:=Ha.out.dk.lt
   have d0:wa.cell? ⟨D,0,none⟩=some (.pointer (some ⟨B,0,none⟩)):=Ha.out.dk.cell 0
   go_wp2
   clear d0 hDa
   go_loopw [] (fun wr=>∃ j:Nat,j≤r1.dk.n∧Jh r1.dk m.bal m.kn (r1.dk.n-j) j=Z∧FrP (fun q=>q=B) wa wr∧Bx wr B (rcC (knR r1 (j:Int)) p1.A)) (fun wr=>r1.dk.n-JG wr B 7)
   case atStart=>exact ⟨r1.dk.kn.toNat,by omega,HZ.out,FrP.refl _ _,HST.out⟩
   case round=>
    obtain ⟨j,hj,hz,fx,bx⟩:=hrel
    have HJ:=hid hz
    have FX:=hid fx
    have BX:=hid bx
    have HD:=hid (HGO.out wr j fx bx)
    clear hz fx bx HST
    have HIA:=hid (show JG wr B 7=j from by have c7:wr.cell? ⟨B,7,none⟩=some (.int .i64 (j:Int)):=BX.out.cell 7;unfold JG;rw [c7];simp)
    have HSL:=hid (show SlsIn wr 0 wr.1.size p1.A.da r1.dk.n r1.dk.s from HD.out.g.at_.o1.isInG (fun h0=>Zr HD.out.g.at_ (j:=1) (by omega) ⟨h0,rfl⟩))
    by_cases e1:(j:Int)<m.kn
    ·cases e3:(decide ((j:Int).toNat<r1.dk.n)&&decide ((r1.dk.s (j:Int).toNat).bal=m.bal):Bool) with
     | true=>
      have HHS:=hid (fun u:GW wr=>Jz ⟨r1.dk.pr,(j:Int),r1.dk.n,r1.dk.s⟩ p1.A.da p1.A.dc (j:Int) m.bal true (by omega) (by omega) e3 u.val 0 wr.1.size u.prop.size (HSL.out.below u.prop (lrf _)))
      have HE3:=hid e3
      clear e3
      go_wp2
      have sD0:=Zc (W1:=wr) (p:=⟨D,0,none⟩) (v:=.pointer (some ⟨B,0,none⟩)) (HD.out.dk.cell 0) HD.out.dk.lt
      have sD4:=Zc (W1:=wr) (p:=⟨D,4,none⟩) (v:=.int .i64 m.bal) (HD.out.dk.cell 4) HD.out.dk.lt
      have sD6:=Zc (W1:=wr) (p:=⟨D,6,none⟩) (v:=.int .i64 m.kn) (HD.out.dk.cell 6) HD.out.dk.lt
      have sB6:=Zc (W1:=wr) (p:=⟨B,6,none⟩) (v:=.int .i64 r1.dk.pr) (HD.out.bx.cell 6) HD.out.bx.lt
      have sB7:=Zc (W1:=wr) (p:=⟨B,7,none⟩) (v:=.int .i64 (j:Int)) (HD.out.bx.cell 7) HD.out.bx.lt
      have sB8:=Zc (W1:=wr) (p:=⟨B,8,none⟩) (v:=.slice p1.A.da r1.dk.n p1.A.dc) (HD.out.bx.cell 8) HD.out.bx.lt
      have hne:Nonempty (GW wr):=⟨⟨_,br _ _⟩⟩
      refine Zf (by kernel_rfl) (by kernel_rfl) ?_
      repeat (go_big_quiet_step ((go_at_call 156;go_must (exact Zp (HHS.out _)))))
      refine wpQuiet_nil ?_
      rintro w8 ⟨u,hu⟩
      have hw8:Below wr.1.size wr w8:=hu▸u.prop
      clear hu u hne sD0 sD4 sD6 sB6 sB7 sB8
      have H8c:=hid (HD.out.grow hw8)
      have F8:=hid (FX.out.trans (FrP.of_below hw8))
      clear hw8
      have c7:w8.cell? ⟨B,7,none⟩=some (.int .i64 (j:Int)):=H8c.out.bx.cell 7
      have gf:=H8c.out.bx.free
      have hB8:=H8c.out.bx.lt
      have B9:Hid (Bx (w8.setCell ⟨B,7,none⟩ (.int .i64 ((j:Int)+1))) B (rcC (knR r1 ((j+1:Nat):Int)) p1.A)):=hid (H8c.out.bx.to (Jp H8c.out.bx.cell (.int .i64 ((j:Int)+1))))
      have F9:=hid (F8.out.setCell (p:=⟨B,7,none⟩) rfl (.int .i64 ((j:Int)+1)))
      skip
      go_wp2
      clear c7 gf
      go_roundw
      case rel=>exact ⟨j+1,by have:=HE3.out;simp at this;omega,by have h:=HE3.out;simp at h;rw [←HJ.out];exact (beatA_go _ _ _ j h.1 e1 h.2).symm,F9.out,B9.out⟩
      case measure=>
       have h7:JG (w8.setCell ⟨B,7,none⟩ (.int .i64 ((j:Int)+1))) B 7=j+1:=by have c7:(w8.setCell ⟨B,7,none⟩ (.int .i64 ((j:Int)+1))).cell? ⟨B,7,none⟩=some (.int .i64 ((j+1:Nat):Int)):=B9.out.cell 7;unfold JG;rw [c7];simp
       have h:=HE3.out
       simp at h
       rw [HIA.out,h7]
       omega
     | false=>
      have HHS:=hid (fun u:GW wr=>Jz ⟨r1.dk.pr,(j:Int),r1.dk.n,r1.dk.s⟩ p1.A.da p1.A.dc (j:Int) m.bal false (by omega) (by omega) e3 u.val 0 wr.1.size u.prop.size (HSL.out.below u.prop (lrf _)))
      have STP:=hid (show Jh r1.dk m.bal m.kn (r1.dk.n-j) j=j from by
       by_cases hjn:j<r1.dk.n
       ·exact Jc _ _ _ _ _ (fun h=>by rw [show ((j:Int).toNat)=j by omega] at e3;simp [hjn,h.2] at e3)
       ·exact beatA_end _ _ _ _ hjn)
      clear e3
      go_wp2
      have sD0:=Zc (W1:=wr) (p:=⟨D,0,none⟩) (v:=.pointer (some ⟨B,0,none⟩)) (HD.out.dk.cell 0) HD.out.dk.lt
      have sD4:=Zc (W1:=wr) (p:=⟨D,4,none⟩) (v:=.int .i64 m.bal) (HD.out.dk.cell 4) HD.out.dk.lt
      have sD6:=Zc (W1:=wr) (p:=⟨D,6,none⟩) (v:=.int .i64 m.kn) (HD.out.dk.cell 6) HD.out.dk.lt
      have sB6:=Zc (W1:=wr) (p:=⟨B,6,none⟩) (v:=.int .i64 r1.dk.pr) (HD.out.bx.cell 6) HD.out.bx.lt
      have sB7:=Zc (W1:=wr) (p:=⟨B,7,none⟩) (v:=.int .i64 (j:Int)) (HD.out.bx.cell 7) HD.out.bx.lt
      have sB8:=Zc (W1:=wr) (p:=⟨B,8,none⟩) (v:=.slice p1.A.da r1.dk.n p1.A.dc) (HD.out.bx.cell 8) HD.out.bx.lt
      have hne:Nonempty (GW wr):=⟨⟨_,br _ _⟩⟩
      refine Zf (by kernel_rfl) (by kernel_rfl) ?_
      repeat (go_big_quiet_step ((go_at_call 156;go_must (exact Zp (HHS.out _)))))
      refine wpQuiet_nil ?_
      rintro w8 ⟨u,hu⟩
      have hw8:Below wr.1.size wr w8:=hu▸u.prop
      clear hu u hne sD0 sD4 sD6 sB6 sB7 sB8
      have H8c:=hid (HD.out.grow hw8)
      have F8:=hid hw8
      clear hw8
      go_wp2
      have sD0:=Zc (W1:=w8) (p:=⟨D,0,none⟩) (v:=.pointer (some ⟨B,0,none⟩)) (H8c.out.dk.cell 0) H8c.out.dk.lt
      have sD6:=Zc (W1:=w8) (p:=⟨D,6,none⟩) (v:=.int .i64 m.kn) (H8c.out.dk.cell 6) H8c.out.dk.lt
      have sB7:=Zc (W1:=w8) (p:=⟨B,7,none⟩) (v:=.int .i64 (j:Int)) (H8c.out.bx.cell 7) H8c.out.bx.lt
      have hne:Nonempty (GW w8):=⟨⟨_,br _ _⟩⟩
      refine Zf (by kernel_rfl) (by kernel_rfl) ?_
      repeat (go_big_quiet_step (fail))
      refine wpQuiet_nil ?_
      rintro wb ⟨u,hu⟩
      have hwb:Below w8.1.size w8 wb:=hu▸u.prop
      clear hu u hne sD0 sD6 sB7
      have Hb:=hid (H8c.out.grow hwb)
      have Fb:=hid (FX.out.trans ((FrP.of_below F8.out).trans (FrP.of_below hwb)))
      clear hwb
      have HEQ:=hid (show O=XO (Zo (knR r1 (j:Int)) ⟨7,0,m.from_,m.bal,(knR r1 (j:Int)).dk.kn+1,0,⟨#[]⟩,0,fun _=>⟨0,⟨#[]⟩⟩⟩) m from HO.out.symm.trans ((HQ.out j (HZ.out.trans (HJ.out.symm.trans STP.out))).trans (congrArg (fun x=>XO x m) (if_pos (by show (j:Int)<m.kn;exact e1)))))
      go_wp2
      refine beaReg8 _ _ _ _ _ _ _ _ _ _ _ _ _ _ _ _ _ _ _ _ _ _ _ _ _ _ _ _ _ _ _ _ _ _ _ _ _ _ _ _ _ _ _ _ _ _ _ _ _ _ _ _ _ _ _ _ _ _ _ _ _ _ _ _ _ _ _ _ _ _ _ _ _ _ _ _ _ _ _ _ _ _ _ _ _ _ _ _ _ _ _ _ _ _ _ _ _ _ _ _ _ _ _ _ _ _ _ _ _ _ _ _ _ _ _ _ _ _ _ _ _ _ _ _ _ _ _ D B qh m ma mc (knR r1 (j:Int)) p1 (fun w'=>DoR B (knR r1 (j:Int)) p1 (Zo (knR r1 (j:Int)) ⟨7,0,m.from_,m.bal,(knR r1 (j:Int)).dk.kn+1,0,⟨#[]⟩,0,fun _=>⟨0,⟨#[]⟩⟩⟩) wb (.returned (.tuple #[])) w') wb ⟨by show (0:Int)≤(j:Int);omega,by show (j:Int)≤60;omega⟩ Hb.out.dk.lt Hb.out.bx.lt (Hb.out.bx.cell 7) (Hb.out.dk.cell 2) (Hb.out.dk.cell 4) (Hb.out.dk.cell 9) (fun X hb=>(Jy D B qh m ma mc (knR r1 (j:Int)) p1 X (Hb.out.grow hb) ⟨7,0,m.from_,m.bal,(knR r1 (j:Int)).dk.kn+1,0,⟨#[]⟩,0,fun _=>⟨0,⟨#[]⟩⟩⟩ rfl).mono fun e w' hd=>⟨hd.1,by have h9:=DskAt.after Hb.out hb hd;rw [hd.1] at h9;exact h9⟩) _ ?_
      intro twc vwc wc hdo
      obtain ⟨_,p3,x1,g1,f1,s1⟩:=hdo
      have Hc:=hid (Hb.out.next x1 g1 f1 s1)
      have Fwc:=hid f1
      have Swc:=hid s1
      have Dwc:=hid (show DoR B (knR r1 (j:Int)) p1 (Zo (knR r1 (j:Int)) ⟨7,0,m.from_,m.bal,(knR r1 (j:Int)).dk.kn+1,0,⟨#[]⟩,0,fun _=>⟨0,⟨#[]⟩⟩⟩) wb (.returned (.tuple #[])) wc from ⟨rfl,p3,x1,g1,f1,s1⟩)
      clear x1 g1 f1 s1
      obtain ⟨r2,hr2⟩:∃ r2,Zo (knR r1 (j:Int)) ⟨7,0,m.from_,m.bal,(knR r1 (j:Int)).dk.kn+1,0,⟨#[]⟩,0,fun _=>⟨0,⟨#[]⟩⟩⟩=r2:=⟨_,rfl⟩
      have hw2:(r2.wn:Int)≤100000:=by rw [←hr2,Uo];exact hwn1
      rw [hr2] at Hc HEQ Dwc Swc
      have HR2:=hid hr2
      clear hr2
      have d0:wc.cell? ⟨D,0,none⟩=some (.pointer (some ⟨B,0,none⟩)):=Hc.out.dk.cell 0
      have b10:wc.cell? ⟨B,10,none⟩=some (.slice p3.A.wa r2.wn p3.A.wc):=Hc.out.bx.cell 10
      have hDz:=Hc.out.dk.lt
      have hBz:=Hc.out.bx.lt
      go_wp2
      clear d0 b10 hDz hBz
      go_loopw [112] (fun i wr=>∃ k pk,k≤r2.wn∧i=.int .i64 (k:Int)∧DskAt wr D B qh m ma mc (YO r2 m k) pk∧FrP (fun q=>q=B∨rbs p3 r2 q) wc wr∧(∀ q,rbs pk (YO r2 m k) q→rbs p3 r2 q∨wc.1.size≤q)∧pk.A.wa=p3.A.wa∧pk.A.wc=p3.A.wc) (fun i _=>r2.wn-(intOf i).toNat)
      case atStart=>exact ⟨0,p3,zle _,rfl,Hc.out,FrP.refl _ _,fun q hq=>Or.inl hq,rfl,rfl⟩
      case round=>
       obtain ⟨k,pk,hk,rfl,hd,hf,hs,ha1,hc1⟩:=hrel
       have HK:=hid hd
       have HF:=hid hf
       have HS:=hid hs
       have HA1:=hid ha1
       have HC1:=hid hc1
       have HW:=hid (Kl r2 m k)
       clear hd hf hs ha1 hc1
       by_cases hkn:k<r2.wn
       ·skip
        obtain ⟨rk,hrk⟩:∃ rk,YO r2 m k=rk:=⟨_,rfl⟩
        have HRK:=hid hrk
        rw [hrk] at HK HS HW
        clear hrk
        obtain ⟨b,off,eA,_,_,hcw,_⟩:=HK.out.g.at_.o3 k (by rw [HW.out];exact hkn)
        rw [show p3.A.wa=some ⟨b,off,none⟩ from HA1.out.symm.trans eA]
        exact apRa0
       ·skip
        have hke:k=r2.wn:=by omega
        have HKE:=hid hke
        clear hke
        go_wp2
        refine bodyPost_end (results_none rfl _ _ _) rfl ?_
        have e9:=HKE.out
        subst e9
        rw [HEQ.out];exact DskAt.after H.out HB9.out (DoR.then Fwa.out Swa.out (DoR.then (Fb.out.mono (fun q hq=>Or.inl hq)) (fun q hq=>Or.inl hq) (DoR.then Fwc.out Swc.out ⟨rfl,pk,HK.out.bx,HK.out.g,HF.out,HS.out⟩)))
    ·skip
     have NE1:=hid e1
     have e1z:decide ((j:Int)<m.kn)=false:=decide_eq_false e1
     go_wp2
     have sD0:=Zc (W1:=wr) (p:=⟨D,0,none⟩) (v:=.pointer (some ⟨B,0,none⟩)) (HD.out.dk.cell 0) HD.out.dk.lt
     have sD4:=Zc (W1:=wr) (p:=⟨D,4,none⟩) (v:=.int .i64 m.bal) (HD.out.dk.cell 4) HD.out.dk.lt
     have sD6:=Zc (W1:=wr) (p:=⟨D,6,none⟩) (v:=.int .i64 m.kn) (HD.out.dk.cell 6) HD.out.dk.lt
     have sB6:=Zc (W1:=wr) (p:=⟨B,6,none⟩) (v:=.int .i64 r1.dk.pr) (HD.out.bx.cell 6) HD.out.bx.lt
     have sB7:=Zc (W1:=wr) (p:=⟨B,7,none⟩) (v:=.int .i64 (j:Int)) (HD.out.bx.cell 7) HD.out.bx.lt
     have sB8:=Zc (W1:=wr) (p:=⟨B,8,none⟩) (v:=.slice p1.A.da r1.dk.n p1.A.dc) (HD.out.bx.cell 8) HD.out.bx.lt
     have hne:Nonempty (GW wr):=⟨⟨_,br _ _⟩⟩
     refine Zf (by kernel_rfl) (by kernel_rfl) ?_
     repeat (go_big_quiet_step (fail))
     refine wpQuiet_nil ?_
     rintro w8 ⟨u,hu⟩
     have hw8:Below wr.1.size wr w8:=hu▸u.prop
     clear hu u hne sD0 sD4 sD6 sB6 sB7 sB8
     have H8c:=hid (HD.out.grow hw8)
     have F8:=hid hw8
     clear hw8
     go_wp2
     have sD0:=Zc (W1:=w8) (p:=⟨D,0,none⟩) (v:=.pointer (some ⟨B,0,none⟩)) (H8c.out.dk.cell 0) H8c.out.dk.lt
     have sD6:=Zc (W1:=w8) (p:=⟨D,6,none⟩) (v:=.int .i64 m.kn) (H8c.out.dk.cell 6) H8c.out.dk.lt
     have sB7:=Zc (W1:=w8) (p:=⟨B,7,none⟩) (v:=.int .i64 (j:Int)) (H8c.out.bx.cell 7) H8c.out.bx.lt
     have hne:Nonempty (GW w8):=⟨⟨_,br _ _⟩⟩
     refine Zf (by kernel_rfl) (by kernel_rfl) ?_
     repeat (go_big_quiet_step (fail))
     refine wpQuiet_nil ?_
     rintro wb ⟨u,hu⟩
     have hwb:Below w8.1.size w8 wb:=hu▸u.prop
     clear hu u hne sD0 sD6 sB7
     have Hb:=hid (H8c.out.grow hwb)
     have Fb:=hid (FX.out.trans ((FrP.of_below F8.out).trans (FrP.of_below hwb)))
     clear hwb
     have HEQ:=hid (show O=XO (knR r1 (j:Int)) m from HO.out.symm.trans ((HQ.out j (HZ.out.trans (HJ.out.symm.trans (Jc _ _ _ _ _ (fun h=>absurd h.1 (by have:=NE1.out;omega)))))).trans (congrArg (fun x=>XO x m) (if_neg (by show ¬(j:Int)<m.kn;have:=NE1.out;omega)))))
     obtain ⟨r2,hr2⟩:∃ r2,knR r1 (j:Int)=r2:=⟨_,rfl⟩
     have hw2:(r2.wn:Int)≤100000:=by rw [←hr2];exact hwn1
     rw [hr2] at Hb HEQ
     have HR2:=hid hr2
     clear hr2
     have d0:wb.cell? ⟨D,0,none⟩=some (.pointer (some ⟨B,0,none⟩)):=Hb.out.dk.cell 0
     have b10:wb.cell? ⟨B,10,none⟩=some (.slice p1.A.wa r2.wn p1.A.wc):=Hb.out.bx.cell 10
     have hDz:=Hb.out.dk.lt
     have hBz:=Hb.out.bx.lt
     go_wp2
     clear d0 b10 hDz hBz
     go_loopw [112] (fun i wr=>∃ k pk,k≤r2.wn∧i=.int .i64 (k:Int)∧DskAt wr D B qh m ma mc (YO r2 m k) pk∧FrP (fun q=>q=B∨rbs p1 r2 q) wb wr∧(∀ q,rbs pk (YO r2 m k) q→rbs p1 r2 q∨wb.1.size≤q)∧pk.A.wa=p1.A.wa∧pk.A.wc=p1.A.wc) (fun i _=>r2.wn-(intOf i).toNat)
     case atStart=>exact ⟨0,p1,zle _,rfl,Hb.out,FrP.refl _ _,fun q hq=>Or.inl hq,rfl,rfl⟩
     case round=>
      obtain ⟨k,pk,hk,rfl,hd,hf,hs,ha1,hc1⟩:=hrel
      have HK:=hid hd
      have HF:=hid hf
      have HS:=hid hs
      have HA1:=hid ha1
      have HC1:=hid hc1
      have HW:=hid (Kl r2 m k)
      clear hd hf hs ha1 hc1
      by_cases hkn:k<r2.wn
      ·skip
       obtain ⟨rk,hrk⟩:∃ rk,YO r2 m k=rk:=⟨_,rfl⟩
       have HRK:=hid hrk
       rw [hrk] at HK HS HW
       clear hrk
       obtain ⟨b,off,eA,_,_,hcw,_⟩:=HK.out.g.at_.o3 k (by rw [HW.out];exact hkn)
       rw [show p1.A.wa=some ⟨b,off,none⟩ from HA1.out.symm.trans eA]
       exact apRa0
      ·skip
       have hke:k=r2.wn:=by omega
       have HKE:=hid hke
       clear hke
       go_wp2
       refine bodyPost_end (results_none rfl _ _ _) rfl ?_
       have e9:=HKE.out
       subst e9
       rw [HEQ.out];have e2:=HR2.out;subst e2;exact DskAt.after H.out HB9.out (DoR.then Fwa.out Swa.out (DoR.then (Fb.out.mono (fun q hq=>Or.inl hq)) (fun q hq=>Or.inl hq) ⟨rfl,pk,HK.out.bx,HK.out.g,HF.out,HS.out⟩))
def leaReg6G (B g iq bn cap:Nat) (bl:Int) (tx:ByteArray) (_R:World→Prop) (_W:World) (i:Nat) (v:Value) (_X:World):Prop:=
 match i with
 | 0=>v=.pointer (some ⟨B,0,none⟩)
 | 1=>v=.pointer (some ⟨B,0,none⟩)
 | 2=>v=.pointer (some ⟨B,6,none⟩)
 | 3=>v=.int .i64 (iq:Int)
 | 4=>v=.int .i64 ((iq:Int)+1)
 | 5=>v=.pointer (some ⟨B,0,none⟩)
 | 6=>v=.pointer (some ⟨B,0,none⟩)
 | 7=>v=.pointer (some ⟨B,13,none⟩)
 | 8=>v=.int .i64 bl
 | 9=>v=.slice (some ⟨g,0,none⟩) bn cap
 | 10=>v=.int .i64 (iq:Int)
 | 11=>v=.pointer (some ⟨g,iq*2,none⟩)
 | 12=>v=.pointer (some ⟨g,iq*2+1,none⟩)
 | 13=>v=.string tx
 | 14=>v=.agg #[.int .i64 bl,.string tx]
 | _=>True
set_option maxRecDepth 100000 in
theorem leaReg6 (p1 p4 p5 p6 p7 p8 p9 p10 p11 p12 p13 p14 p15 p16 p17 p18 p19 p20 p21 p22 p23 p24 p25 p26 p27 p28 p29 p30 p31 p32 p33 p49:Value) (w0 w1 w2 w3 w4 w5 w6 w7 w8 w9 w10 w11 w12 w13 w14:Value) (B g iq bn cap:Nat) (bl:Int) (tx:ByteArray) (R:World→Prop) (W:World) (hB:B<W.1.size) (hgl:g<W.1.size) (hi:iq<bn) (hbn:bn≤1000) (c13:W.cell? ⟨B,13,none⟩=some (.int .i64 bl)) (cg:W.cell? ⟨g,iq*2+1,none⟩=some (.string tx)) (hQc:∀ X,Below W.1.size W X→Calls Tryz.prog 154 #[.pointer (some ⟨B,6,none⟩),.int .i64 ((iq:Int)+1),.agg #[.int .i64 bl,.string tx]] X fun e w'=>e=.returned (.tuple #[])∧R w') (Q:Exit→Act→World→Prop) (hQ:∀ (t:Nat→Value) (v3:Value) X,R X→Q .normal ⟨#[.pointer (some ⟨B,0,none⟩),p1,.slice (some ⟨g,0,none⟩) bn cap,.int .i64 (iq:Int),p4,p5,p6,p7,p8,p9,p10,p11,p12,p13,p14,p15,p16,p17,p18,p19,p20,p21,p22,p23,p24,p25,p26,p27,p28,p29,p30,p31,p32,p33,t 0,t 1,t 2,t 3,t 4,t 5,t 6,t 7,t 8,t 9,t 10,t 11,t 12,t 13,t 14,v3],[]⟩ X) :
  Code.wp Tryz.prog (Code.region 6 #[⟨some 34,.move (.tmp 0),81, "l14_rec_take.go:192",#[],none⟩,⟨some 35,.nilCheck (.tmp 34),0, "l14_rec_take.go:192",#[⟨0,.data⟩],none⟩,⟨some 36,.fieldAddr 38 (.tmp 35) 4,0, "l14_rec_take.go:192",#[⟨1,.data⟩],none⟩,⟨some 37,.move (.tmp 3),3, "l14_rec_take.go:192",#[],none⟩,⟨some 38,.binOp .add 3 (.tmp 37) (.const (.int .i64 1)) 3,3, "l14_rec_take.go:192",#[⟨3,.data⟩],none⟩,⟨some 39,.move (.tmp 0),81, "l14_rec_take.go:192",#[],none⟩,⟨some 40,.nilCheck (.tmp 39),0, "l14_rec_take.go:192",#[⟨5,.data⟩],none⟩,⟨some 41,.fieldAddr 38 (.tmp 40) 9,0, "l14_rec_take.go:192",#[⟨6,.data⟩],none⟩,⟨some 42,.load 3 (.tmp 41),3, "l14_rec_take.go:192",#[⟨7,.data⟩],none⟩,⟨some 43,.move (.tmp 2),32, "l14_rec_take.go:192",#[],none⟩,⟨some 44,.move (.tmp 3),3, "l14_rec_take.go:192",#[],none⟩,⟨some 45,.indexAddr 32 (.tmp 43) (.tmp 44),0, "l14_rec_take.go:192",#[⟨9,.data⟩,⟨10,.data⟩],none⟩,⟨some 46,.fieldAddr 109 (.tmp 45) 1,0, "l14_rec_take.go:192",#[⟨11,.data⟩],none⟩,⟨some 47,.load 9 (.tmp 46),9, "l14_rec_take.go:192",#[⟨12,.data⟩],none⟩,⟨some 48,.build 109 #[(0,.tmp 42),(1,.tmp 47)],109, "l14_rec_take.go:192",#[⟨8,.data⟩,⟨13,.data⟩],none⟩,⟨some 49,.call ⟨.value (.func 154),#[.tmp 36,.tmp 38,.tmp 48],#[155,3,109]⟩,0, "l14_rec_take.go:192",#[⟨2,.data⟩,⟨4,.data⟩,⟨14,.data⟩],none⟩] true) Q ⟨#[.pointer (some ⟨B,0,none⟩),p1,.slice (some ⟨g,0,none⟩) bn cap,.int .i64 (iq:Int),p4,p5,p6,p7,p8,p9,p10,p11,p12,p13,p14,p15,p16,p17,p18,p19,p20,p21,p22,p23,p24,p25,p26,p27,p28,p29,p30,p31,p32,p33,w0,w1,w2,w3,w4,w5,w6,w7,w8,w9,w10,w11,w12,w13,w14,p49],[]⟩ W:=by
 refine ZL (by kernel_rfl) 15 (fun t:Nat→Value=>#[.pointer (some ⟨B,0,none⟩),p1,.slice (some ⟨g,0,none⟩) bn cap,.int .i64 (iq:Int),p4,p5,p6,p7,p8,p9,p10,p11,p12,p13,p14,p15,p16,p17,p18,p19,p20,p21,p22,p23,p24,p25,p26,p27,p28,p29,p30,p31,p32,p33,t 0,t 1,t 2,t 3,t 4,t 5,t 6,t 7,t 8,t 9,t 10,t 11,t 12,t 13,t 14,p49]) (fun i=>match i with|0=>w0|1=>w1|2=>w2|3=>w3|4=>w4|5=>w5|6=>w6|7=>w7|8=>w8|9=>w9|10=>w10|11=>w11|12=>w12|13=>w13|_=>w14) (leaReg6G B g iq bn cap bl tx R W) (fun a X=>∃ (t:Nat→Value) (v3:Value),a=⟨#[.pointer (some ⟨B,0,none⟩),p1,.slice (some ⟨g,0,none⟩) bn cap,.int .i64 (iq:Int),p4,p5,p6,p7,p8,p9,p10,p11,p12,p13,p14,p15,p16,p17,p18,p19,p20,p21,p22,p23,p24,p25,p26,p27,p28,p29,p30,p31,p32,p33,t 0,t 1,t 2,t 3,t 4,t 5,t 6,t 7,t 8,t 9,t 10,t 11,t 12,t 13,t 14,v3],[]⟩∧R X) (by kernel_rfl) (by kernel_rfl) (by kernel_rfl) ?_ rfl ?_ ?_ ?_
 ·exact fun _ _ _ _ _ h _=>h
 ·intro i hi t X K hb hg hK
  rcases (show i=0∨i=1∨i=2∨i=3∨i=4∨i=5∨i=6∨i=7∨i=8∨i=9∨i=10∨i=11∨i=12∨i=13∨i=14 by omega) with rfl|rfl|rfl|rfl|rfl|rfl|rfl|rfl|rfl|rfl|rfl|rfl|rfl|rfl|rfl
  ·exact sg
  ·have ea:t 0=.pointer (some ⟨B,0,none⟩):=hg 0 (Wt rfl)
   exact sg
  ·have ea:t 1=.pointer (some ⟨B,0,none⟩):=hg 1 (Wt rfl)
   exact sg
  ·exact sg
  ·have e3:t 3=.int .i64 (iq:Int):=hg 3 (Wt rfl)
   have e9:t 3=.int .i64 (iq:Int):=hg 3 (Wt rfl)
   have h:=hK _ X rfl (br _ _)
   refine Zi rfl rfl ?_
   clear hK hg
   have hw:IntKind.i64.wrap ((iq:Int)+1)=(iq:Int)+1:=by rw [IntKind.wrap_i64];omega
   simp only [e9]
   go_simp
   simpa [updT,e9,hw] using h
  ·exact sg
  ·have ea:t 5=.pointer (some ⟨B,0,none⟩):=hg 5 (Wt rfl)
   exact sg
  ·have ea:t 6=.pointer (some ⟨B,0,none⟩):=hg 6 (Wt rfl)
   exact sg
  ·have ea:t 7=.pointer (some ⟨B,13,none⟩):=hg 7 (Wt rfl)
   have f1:=(hb.cell (p:=⟨B,13,none⟩) hB).trans c13
   exact sg
  ·exact sg
  ·exact sg
  ·have ea:t 9=.slice (some ⟨g,0,none⟩) bn cap:=hg 9 (Wt rfl)
   have eb:t 10=.int .i64 (iq:Int):=hg 10 (Wt rfl)
   have hi2:=hi
   exact sg
  ·have ea:t 11=.pointer (some ⟨g,iq*2,none⟩):=hg 11 (Wt rfl)
   exact sg
  ·have ea:t 12=.pointer (some ⟨g,iq*2+1,none⟩):=hg 12 (Wt rfl)
   have f1:=(hb.cell (p:=⟨g,iq*2+1,none⟩) hgl).trans cg
   exact sg
  ·have ea:t 8=.int .i64 bl:=hg 8 (Wt rfl)
   have eb:t 13=.string tx:=hg 13 (Wt rfl)
   exact sg
 ·intro t X K hb hg hK
  have e2:t 2=.pointer (some ⟨B,6,none⟩):=hg 2 (by omega)
  have e4:t 4=.int .i64 ((iq:Int)+1):=hg 4 (by omega)
  have e14:t 14=.agg #[.int .i64 bl,.string tx]:=hg 14 (by omega)
  refine Zi rfl rfl ?_
  have HK:=hid hK
  have HC:=hid (hQc X hb)
  clear hK hg hQc
  simp only [e2,e4,e14]
  go_simp
  go_at_call 154
  refine HC.out.mono ?_
  rintro e Y ⟨rfl,hR⟩
  have h:=HK.out _ Y ⟨t,.tuple #[],rfl,hR⟩
  simpa [e2,e4,e14] using h
 ·rintro a X ⟨t,v3,rfl,hp⟩
  exact hQ t v3 X hp
abbrev leadS (r:Rc):Rc:=⟨r.num,r.of,r.up,r.sf,r.dk,r.hn,r.hs,r.wn,r.ws,true,false,r.bal,0,fun _=>0,0,fun _=>⟨0,⟨#[]⟩⟩,0,fun _=>⟨0,0,fun _=>0⟩,r.hd⟩
def YS (r:Rc) (bs:Nat→Sl) (a:Nat):Nat→Rc
 | 0=>r
 | k+1=>putR (YS r bs a k) (a+k) ⟨(YS r bs a k).bal,(bs (a+k)).text⟩
def JF (r:Rc):Rc:=YS (leadS r) r.bs r.dk.kn.toNat (r.bn-r.dk.kn.toNat)
theorem RcG.lead {w:World} {r:Rc} {p:RcP} (h:RcG w r p):RcG w (leadS r) (Yo p none none none 0 0 0):=by
 have hg:=h.calm none none none 0 0 0
 exact ⟨⟨hg.at_.o0,hg.at_.o1,hg.at_.o2,hg.at_.o3,hg.at_.o4,hg.at_.o5,hg.at_.o6,hg.at_.lt,hg.at_.ap⟩,⟨hg.rm.dl,hg.rm.d0,hg.rm.dr,hg.rm.hl,hg.rm.h0,hg.rm.hr⟩⟩
theorem rbs_lead {p:RcP} {r:Rc} {k:Nat} (h:rbs (Yo p none none none 0 0 0) (leadS r) k):rbs p r k:=Xv (r:=r) h
theorem UG {w:World} {p:RcP} {r:Rc} (hg:RcG w r p) (h0:r.bn≠0):¬rbs (Yo p none none none 0 0 0) (leadS r) p.g5:=by
 rintro ⟨j,hj,hk⟩
 have hk':rb (Yo p none none none 0 0 0) (ZD r) j p.g5:=hk
 have h1:=KU hj hk'
 have:=hg.at_.ap j 5 p.g5 hj (by omega) h1 ⟨h0,rfl⟩
 subst this
 exact hk.1 rfl
set_option maxRecDepth 100000 in
theorem lead_do (r:Rc) (p:RcP) (B:Nat) (w:World) (hbx:Bx w B (rcC r p.A)) (hg:RcG w r p) (hB:∀ i,rbs p r i→i≠B) (hk0:0≤r.dk.kn) (hbn:r.bn≤60) :
  Calls Tryz.prog 165 #[.pointer (some ⟨B,0,none⟩)] w fun e w'=>DoR B r p (JF r) w e w':=by
 obtain ⟨a,ha⟩:∃ a:Nat,r.dk.kn=(a:Int):=⟨r.dk.kn.toNat,by omega⟩
 have HT:=hid (show JF r=YS (leadS r) r.bs a (r.bn-a) by unfold JF;rw [show r.dk.kn.toNat=a by omega])
 rw [HT.out]
 obtain ⟨q0,q1,q2,q3,q4,q5,q6,q7,q8,q9,q10,q11,q12,q13,q14,q15,q16,q17⟩:=Ze hbx.cell
 have q7a:w.cell? ⟨B,7,none⟩=some (.int .i64 (a:Int)):=q7.trans (congrArg (fun b=>some (Value.int .i64 b)) ha)
 have qf:=hbx.free
 have hBl:=hbx.lt
 have HR:Hid (Bx (((((w.setCell ⟨B,11,none⟩ (.bool true)).setCell ⟨B,12,none⟩ (.bool false)).setCell ⟨B,14,none⟩ (.slice none 0 0)).setCell ⟨B,15,none⟩ (.slice none 0 0)).setCell ⟨B,16,none⟩ (.slice none 0 0)) B (rcC (leadS r) (Yo p none none none 0 0 0).A)):=hid (((((hbx.to (Zs hbx.cell (.bool true))).to (ZN (hbx.to (Zs hbx.cell (.bool true))).cell (.bool false))).to (YU ((hbx.to (Zs hbx.cell (.bool true))).to (ZN (hbx.to (Zs hbx.cell (.bool true))).cell (.bool false))).cell (.slice none 0 0))).to (XI (((hbx.to (Zs hbx.cell (.bool true))).to (ZN (hbx.to (Zs hbx.cell (.bool true))).cell (.bool false))).to (YU ((hbx.to (Zs hbx.cell (.bool true))).to (ZN (hbx.to (Zs hbx.cell (.bool true))).cell (.bool false))).cell (.slice none 0 0))).cell (.slice none 0 0))).to (JM ((((hbx.to (Zs hbx.cell (.bool true))).to (ZN (hbx.to (Zs hbx.cell (.bool true))).cell (.bool false))).to (YU ((hbx.to (Zs hbx.cell (.bool true))).to (ZN (hbx.to (Zs hbx.cell (.bool true))).cell (.bool false))).cell (.slice none 0 0))).to (XI (((hbx.to (Zs hbx.cell (.bool true))).to (ZN (hbx.to (Zs hbx.cell (.bool true))).cell (.bool false))).to (YU ((hbx.to (Zs hbx.cell (.bool true))).to (ZN (hbx.to (Zs hbx.cell (.bool true))).cell (.bool false))).cell (.slice none 0 0))).cell (.slice none 0 0))).cell (.slice none 0 0)))
 have HFR:=hid ((((((FrP.refl (fun q=>q=B) w).setCell (p:=⟨B,11,none⟩) rfl (.bool true)).setCell (p:=⟨B,12,none⟩) rfl (.bool false)).setCell (p:=⟨B,14,none⟩) rfl (.slice none 0 0)).setCell (p:=⟨B,15,none⟩) rfl (.slice none 0 0)).setCell (p:=⟨B,16,none⟩) rfl (.slice none 0 0))
 have HG:=hid hg
 have HB:=hid hB
 have HA:=hid ha
 clear hbx q0 q1 q2 q3 q4 q5 q6 q7 q8 q9 q10 q13 q17 hg hB ha hk0
 go_enter Tryz.func165,Tryz.ntmps165
 go_wp2
 obtain ⟨W1,hW1⟩:∃ W1,(((((w.setCell ⟨B,11,none⟩ (.bool true)).setCell ⟨B,12,none⟩ (.bool false)).setCell ⟨B,14,none⟩ (.slice none 0 0)).setCell ⟨B,15,none⟩ (.slice none 0 0)).setCell ⟨B,16,none⟩ (.slice none 0 0))=W1:=⟨_,rfl⟩
 rw [hW1] at HR HFR ⊢
 clear hW1 q7a qf q11 q12 q14 q15 q16
 have HR:Hid (Bx W1 B (rcC (leadS r) (Yo p none none none 0 0 0).A)):=HR
 have G0:=hid ((HG.out.fr HFR.out (fun q hq e=>HB.out q hq e)).lead)
 have HP0:=hid (show ∀ q,rbs (Yo p none none none 0 0 0) (leadS r) q→rbs p r q from fun q hq=>rbs_lead hq)
 have HP5:=hid (fun h0:r.bn≠0=>UG HG.out h0)
 have O5:=hid (HG.out.fr HFR.out (fun q hq e=>HB.out q hq e)).at_.o5
 have L5:=hid (show r.bn≠0→p.g5<W1.1.size∧p.g5≠B from fun h0=>⟨ltl (Zr HG.out.at_ (j:=5) (by omega) ⟨h0,rfl⟩) HFR.out.size,HB.out _ ⟨5,by omega,h0,rfl⟩⟩)
 have HFIN:=hid (show ∀ w2 r2,DoR B (leadS r) (Yo p none none none 0 0 0) r2 W1 (.returned (.tuple #[])) w2→DoR B r p r2 w (.returned (.tuple #[])) w2 from fun w2 r2 h=>DoR.then (HFR.out.mono (fun q hq=>Or.inl hq)) (fun q hq=>Or.inl (HP0.out q hq)) h)
 have HB0:=hid (show ∀ q,rbs (Yo p none none none 0 0 0) (leadS r) q→q≠B from fun q hq=>HB.out q (HP0.out q hq))
 obtain ⟨bs,hbs⟩:∃ bs,r.bs=bs:=⟨_,rfl⟩
 obtain ⟨bn,hbe⟩:∃ bn,r.bn=bn:=⟨_,rfl⟩
 obtain ⟨r0,hr0⟩:∃ r0,leadS r=r0:=⟨_,rfl⟩
 obtain ⟨p0,hp0⟩:∃ p0,Yo p none none none 0 0 0=p0:=⟨_,rfl⟩
 rw [hr0,hp0] at HR G0 HP5 HFIN HB0
 rw [hbs,hbe] at O5
 rw [hbe] at L5 HP5 hbn ⊢
 clear HP0 HG HB HFR
 have HE1:=hid hr0
 have HE2:=hid hbs
 have HE3:=hid hbe
 clear hr0 hbs hbe hp0
 obtain ⟨K,hK⟩:∃ K,bn-a=K:=⟨_,rfl⟩
 have HKE:=hid hK
 clear hK
 have hBl1:=HR.out.lt
 go_loopw [3] (fun i wr=>∃ k pk,k≤K∧i=.int .i64 ((a+k:Nat):Int)∧Bx wr B (rcC (YS r0 bs a k) pk.A)∧RcG wr (YS r0 bs a k) pk∧FrP (fun q=>q=B∨rbs p0 r0 q) W1 wr∧(∀ q,rbs pk (YS r0 bs a k) q→rbs p0 r0 q∨W1.1.size≤q)) (fun i _=>a+K-(intOf i).toNat)
 case atStart=>exact ⟨0,p0,zle _,rfl,HR.out,G0.out,FrP.refl _ _,fun q hq=>Or.inl hq⟩
 case round=>
  obtain ⟨k,pk,hk,rfl,bx,g,hf,hs⟩:=hrel
  have BX:=hid bx
  have G:=hid g
  have HF:=hid hf
  have HS:=hid hs
  clear bx g hf hs HR G0
  by_cases hkK:k<K
  ·have hin:a+k<bn:=by have:=HKE.out;omega
   obtain ⟨l5,l5b⟩:=L5.out (by omega)
   have o5:=O5.out.frP HF.out (fun h0=>⟨fun e=>by rcases e with e|e;exact l5b e;exact HP5.out (by omega) e,l5⟩)
   have eA:=o5.addr (by omega)
   obtain ⟨cc,rr,hat⟩:=o5.row (by omega)
   have hc1:wr.cell? ⟨p.g5,(a+k)*2+1,none⟩=some (.string (bs (a+k)).text):=by rw [rr.cell _ (by omega),(hat (a+k) hin).2]
   have hg5:=rr.lt
   have HC1:=hid hc1
   have EA:=hid eA
   clear o5 rr hat hc1 eA
   obtain ⟨rk,hrk⟩:∃ rk,YS r0 bs a k=rk:=⟨_,rfl⟩
   have HRK:=hid hrk
   rw [hrk] at BX G HS
   clear hrk
   have HBk:=hid (show ∀ q,rbs pk rk q→q≠B from fun q hq=>by rcases HS.out q hq with h|h;exact HB0.out q h;omega)
   rw [EA.out]
   go_wp2
   refine leaReg6 _ _ _ _ _ _ _ _ _ _ _ _ _ _ _ _ _ _ _ _ _ _ _ _ _ _ _ _ _ _ _ _ _ _ _ _ _ _ _ _ _ _ _ _ _ _ _ B p.g5 (a+k) bn p.A.bc rk.bal (bs (a+k)).text (fun w'=>DoR B rk pk (putR rk (a+k) ⟨rk.bal,(bs (a+k)).text⟩) wr (.returned (.tuple #[])) w') wr BX.out.lt hg5 hin (by omega) (BX.out.cell 13) HC1.out (fun X hb=>(put_do rk pk B (a+k) ⟨rk.bal,(bs (a+k)).text⟩ X (BX.out.below hb BX.out.lt) (G.out.grow hb) HBk.out (by omega)).mono fun e w' ⟨he,p',hx,hg,hf,hr⟩=>⟨he,rfl,p',hx,hg,(FrP.of_below hb).trans2 hf (fun q _ hq=>by
    rcases hq with hq|⟨h1,h2⟩
    ·exact Or.inl hq
    ·exact Or.inr ⟨1,by omega,h1,h2⟩),fun q hq=>by
    rcases hr q hq with h|h
    ·exact Or.inl h
    ·exact Or.inr (ltr hb.size h)⟩) _ ?_
   intro t9 v9 wz hdo
   have HD:=hid hdo
   clear hdo
   go_wp2
   go_roundw
   case rel=>
    obtain ⟨_,p5,x5,g5,f5,s5⟩:=DoR.then HF.out HS.out HD.out
    have e1:=HRK.out
    subst e1
    exact ⟨k+1,p5,by omega,by go_num,x5,g5,f5,s5⟩
   case measure=>simp [intOf];omega
  ·have hge:¬(((a+k:Nat):Int)<(bn:Int)):=by have:=HKE.out;omega
   go_wp2
   refine bodyPost_end (results_none rfl _ _ _) rfl ?_
   have hkk:k=K:=by omega
   have e1:=HE1.out
   have e2:=HE2.out
   have e3:=HE3.out
   have e4:=HKE.out
   subst hkk e1 e2 e3
   rw [e4]
   exact HFIN.out _ _ ⟨rfl,pk,BX.out,G.out,HF.out,HS.out⟩
abbrev yesR (r:Rc) (n:Nat) (s:Nat→Int):Rc:=⟨r.num,r.of,r.up,r.sf,r.dk,r.hn,r.hs,r.wn,r.ws,r.ld,r.tr,r.bal,n,s,r.bn,r.bs,r.an,r.as_,r.hd⟩
abbrev yesP (p:RcP) (ad:Option Addr) (cap b:Nat):RcP:={ p with A:={ p.A with ya:=ad,yc:=cap },g4:=b }
theorem Uf {p:RcP} {r:Rc} {ad:Option Addr} {n cap b:Nat} {s:Nat→Int} {j k:Nat} (hj:j<7) (h4:j≠4):rb (yesP p ad cap b) (yesR r n s) j k↔rb p r j k:=by
 rcases (show j=0∨j=1∨j=2∨j=3∨j=5∨j=6 by omega) with rfl|rfl|rfl|rfl|rfl|rfl<;>exact Iff.rfl
theorem RcG.yes {w:World} {r:Rc} {p:RcP} (h:RcG w r p) {ad:Option Addr} {n cap b:Nat} {s:Nat→Int} (o:IntsOwn w b (b+1) ad n s) (hl:n≠0→b<w.1.size) (hb:n≠0→∀ j,j<7→j≠4→¬rb p r j b) :
  RcG w (yesR r n s) (yesP p ad cap b):=by
 have key:∀ j k,j<7→j≠4→rb (yesP p ad cap b) (yesR r n s) j k→rb (yesP p ad cap b) (yesR r n s) 4 k→False:=fun j k hj h4 h1 h2=>by
  obtain ⟨h0,e⟩:n≠0∧k=b:=h2
  subst e
  exact hb h0 j hj h4 ((Uf hj h4).1 h1)
 refine ⟨⟨h.at_.o0,h.at_.o1,h.at_.o2,h.at_.o3,o,h.at_.o5,h.at_.o6,fun k ⟨j,hj,hk⟩=>?_,fun i j k hi hj h1 h2=>?_⟩,⟨h.rm.dl,h.rm.d0,h.rm.dr,h.rm.hl,h.rm.h0,h.rm.hr⟩⟩
 ·by_cases e:j=4
  ·subst e
   obtain ⟨h0,e⟩:n≠0∧k=b:=hk
   subst e
   exact hl h0
  ·exact h.at_.lt k ⟨j,hj,(Uf hj e).1 hk⟩
 ·by_cases ei:i=4
  ·by_cases ej:j=4
   ·omega
   ·subst ei;exact (key j k hj ej h2 h1).elim
  ·by_cases ej:j=4
   ·subst ej;exact (key i k hi ei h1 h2).elim
   ·exact h.at_.ap i j k hi hj ((Uf hi ei).1 h1) ((Uf hj ej).1 h2)
theorem rbs_yes {p:RcP} {r:Rc} {ad:Option Addr} {n cap b:Nat} {s:Nat→Int} {k:Nat} (h:rbs (yesP p ad cap b) (yesR r n s) k):rbs p r k∨(n≠0∧k=b):=by
 obtain ⟨j,hj,hk⟩:=h
 by_cases e:j=4
 ·subst e;exact Or.inr hk
 ·exact Or.inl ⟨j,hj,(Uf hj e).1 hk⟩
abbrev ZU (r:Rc) (n:Nat) (s:Nat→Sl):Rc:=⟨r.num,r.of,r.up,r.sf,r.dk,r.hn,r.hs,r.wn,r.ws,r.ld,r.tr,r.bal,r.yn,r.ys,n,s,r.an,r.as_,r.hd⟩
abbrev YN (p:RcP) (ad:Option Addr) (cap b:Nat):RcP:={ p with A:={ p.A with ba:=ad,bc:=cap },g5:=b }
theorem JZ {p:RcP} {r:Rc} {ad:Option Addr} {n cap b:Nat} {s:Nat→Sl} {j k:Nat} (hj:j<7) (h5:j≠5):rb (YN p ad cap b) (ZU r n s) j k↔rb p r j k:=by
 rcases (show j=0∨j=1∨j=2∨j=3∨j=4∨j=6 by omega) with rfl|rfl|rfl|rfl|rfl|rfl<;>exact Iff.rfl
theorem RcG.best {w:World} {r:Rc} {p:RcP} (h:RcG w r p) {ad:Option Addr} {n cap b:Nat} {s:Nat→Sl} (o:SlsAt w ad b n s) (hl:n≠0→b<w.1.size) (hb:n≠0→∀ j,j<7→j≠5→¬rb p r j b) :
  RcG w (ZU r n s) (YN p ad cap b):=by
 have key:∀ j k,j<7→j≠5→rb (YN p ad cap b) (ZU r n s) j k→rb (YN p ad cap b) (ZU r n s) 5 k→False:=fun j k hj h4 h1 h2=>by
  obtain ⟨h0,e⟩:n≠0∧k=b:=h2
  subst e
  exact hb h0 j hj h4 ((JZ hj h4).1 h1)
 refine ⟨⟨h.at_.o0,h.at_.o1,h.at_.o2,h.at_.o3,h.at_.o4,o,h.at_.o6,fun k ⟨j,hj,hk⟩=>?_,fun i j k hi hj h1 h2=>?_⟩,⟨h.rm.dl,h.rm.d0,h.rm.dr,h.rm.hl,h.rm.h0,h.rm.hr⟩⟩
 ·by_cases e:j=5
  ·subst e
   obtain ⟨h0,e⟩:n≠0∧k=b:=hk
   subst e
   exact hl h0
  ·exact h.at_.lt k ⟨j,hj,(JZ hj e).1 hk⟩
 ·by_cases ei:i=5
  ·by_cases ej:j=5
   ·omega
   ·subst ei;exact (key j k hj ej h2 h1).elim
  ·by_cases ej:j=5
   ·subst ej;exact (key i k hi ei h1 h2).elim
   ·exact h.at_.ap i j k hi hj ((JZ hi ei).1 h1) ((JZ hj ej).1 h2)
theorem rbs_best {p:RcP} {r:Rc} {ad:Option Addr} {n cap b:Nat} {s:Nat→Sl} {k:Nat} (h:rbs (YN p ad cap b) (ZU r n s) k):rbs p r k∨(n≠0∧k=b):=by
 obtain ⟨j,hj,hk⟩:=h
 by_cases e:j=5
 ·subst e;exact Or.inr hk
 ·exact Or.inl ⟨j,hj,(JZ hj e).1 hk⟩
theorem holding_do (B:Nat) (w:World) :
  Calls Tryz.prog 117 #[.pointer (some ⟨B,0,none⟩)] w fun e w'=>∃ qh,e=.returned (.func (.func 150) #[] #[.pointer (some ⟨qh,0,none⟩)])∧qh=w.1.size∧qh<w'.1.size∧w'.cell? ⟨qh,0,none⟩=some (.pointer (some ⟨B,0,none⟩))∧Below w.1.size w w':=by
 go_enter Tryz.func117,Tryz.ntmps117
 go_wp2
 go_ret
 exact ⟨w.1.size,rfl,rfl,by simp,by simp,Zb _ _⟩
def cmpV (a b:Int):Int:=if a<b then -1 else if b<a then 1 else 0
theorem cmpV_neg (a b:Int):decide (cmpV a b<0)=decide (a<b):=by
 unfold cmpV
 by_cases h:a<b
 ·rw [if_pos h];simp [h]
 ·rw [if_neg h]
  by_cases h2:b<a
  ·rw [if_pos h2];simp [h]
  ·rw [if_neg h2];simp [h]
set_option maxRecDepth 100000 in
theorem isNaNI_any (a:Int) (w:World):Calls Tryz.prog 184 #[.int .i64 a] w fun e w'=>e=.returned (.bool false)∧w'=w:=by
 go_enter Tryz.func184,Tryz.ntmps184
 go_wp2
 go_ret
 exact ⟨Zh (by simp),rfl⟩
theorem apRa1 {P:Prop} (h:P:=by
  go_enter Tryz.func182,Tryz.ntmps182
  go_wp2_with (first|(go_at_call 184;refine (isNaNI_any _ _).mono ?_;rintro e w0 ⟨rfl,hq⟩;replace hq:=hq.symm;subst hq))
  go_ret
  exact ⟨ZE HE.out.symm,rfl⟩):P:=h
set_option maxRecDepth 100000 in
theorem cmpI_any (a b:Int) (w:World):Calls Tryz.prog 182 #[.int .i64 a,.int .i64 b] w fun e w'=>e=.returned (.int .i64 (cmpV a b))∧w'=w:=by
 by_cases h:a<b
 ·have HE:=hid (show cmpV a b = -1 by simp [cmpV,h])
  exact apRa1
 ·by_cases h2:b<a
  ·have HE:=hid (show cmpV a b=1 by simp [cmpV,h,h2])
   exact apRa1
  ·have HE:=hid (show cmpV a b=0 by simp [cmpV,h,h2])
   exact apRa1
set_option maxRecDepth 100000 in
theorem Jb (x y:Sl) (w:World):Calls Tryz.prog 174 #[slV x,slV y] w fun e w'=>e=.returned (.int .i64 (cmpV x.bal y.bal))∧Below w.1.size w w':=by
 go_enter Tryz.func174,Tryz.ntmps174
 go_wp2_with fail
 refine (cmpI_any _ _ _).mono ?_
 rintro e w1 ⟨rfl,hq⟩
 replace hq:=hq.symm
 subst hq
 go_wp2
 go_ret
 exact ⟨rfl,(Zb _ _).alloc (by simp) _⟩
def mgS (na:Nat) (x:Nat→Sl) (nb:Nat) (y:Nat→Sl) (i:Nat):Sl:=if i<na then (if i<nb then (if (x i).bal<(y i).bal then y i else x i) else x i) else y i
theorem Kv {na:Nat} {x:Nat→Sl} {k:Nat} {y:Nat→Sl} {i:Nat} (h:¬i=k):mgS na x (k+1) y i=mgS na x k y i:=by
 unfold mgS
 have e:(i<k+1)=(i<k):=propext ⟨fun _=>by omega,fun _=>by omega⟩
 simp only [e]
theorem RowF.fill {w:World} {g m l:Nat} {c:Nat→Value} (h:RowF w g m c) (d:Nat→Value) (hl:l≤m):RowF (w.setCells g 0 (Zg l d)) g m (fun j=>if j<l then d j else c j):=by
 refine ⟨by rw [ZB];exact h.lt,fun j=>by rw [World.frozen?_setCells];exact h.free j,fun j hj=>?_⟩
 by_cases e:j<l
 ·have:=World.cell?_setCells_in g (Zg l d) 0 w (fun i hi=>by
   rw [Zj] at hi
   rw [Nat.zero_add,h.cell i (by omega)];rfl) j (by rw [Zj];exact e)
  rw [Nat.zero_add,ZG] at this
  rw [this,if_pos e]
 ·rw [if_neg e,World.cell?_setCells_out g (Zg l d) 0 w ⟨g,j,none⟩ (fun _ _=>Or.inr (by rw [Zj];show 0+l≤j;omega))]
  exact h.cell j hj
theorem apRa2 {P:Prop} (h:P:=by
  go_wp2
  go_ret
  exact ⟨⟨60,by first|rfl|(rw [HMX.out];rfl)|(rw [HMX.out];simp)⟩,⟨c,RRH.out,fun i hi9=>AT.out i (by omega)⟩,FRH.out⟩):P:=h
theorem apRa3 {P:Prop} (h:P:=by
  go_wp2
  go_roundw
  case rel=>exact ⟨k+1,_,by omega,by go_num,(FR.out.setCell (p:=⟨R,k*2,none⟩) rfl _).setCell (p:=⟨R,k*2+1,none⟩) rfl _,(RW.out.set (o:=k*2) (by omega) _).set (o:=k*2+1) (by omega) _,AT2.out⟩
  case measure=>simp [intOf];omega):P:=h
set_option maxRecDepth 100000 in
theorem Y9 (na nb:Nat) (x y:Nat→Sl) (ba oa ca bb ob cb R:Nat) (c0:Nat→Value) (w:World) (lo hi:Nat) (ha:na≤60) (hb:nb≤60) (hR:hi≤R) (hr:RowF w R 120 c0) (hx:SlsIn w lo hi (some ⟨ba,oa,none⟩) na x) (hy:SlsIn w lo hi (some ⟨bb,ob,none⟩) nb y) :
  Calls Tryz.prog 173 #[.slice (some ⟨R,0,none⟩) 60 60,.slice (some ⟨ba,oa,none⟩) na ca,.slice (some ⟨bb,ob,none⟩) nb cb,.func (.func 174) #[] #[]] w fun e w'=>(∃ cap,e=.returned (.slice (some ⟨R,0,none⟩) (max na nb) cap))∧(∃ c,RowF w' R 120 c∧∀ i,i<max na nb→atSl c i (mgS na x nb y i))∧FrP (fun q=>q=R) w w':=by
 have hzR:R<w.1.size:=hr.lt
 obtain ⟨i0,hi0,hz0,hz1,hz2⟩:=info_parts Tryz.info109
 have hsz:(Tryz.prog.info? 109).map (·.size)=some 2:=by rw [hi0];simp [hz1]
 have hmin:Nat.min na 60=na:=Nat.min_eq_left ha
 have hrun:=Yd (P:=Tryz.prog) w 32 32 3 109 R 0 60 60 ⟨ba,oa,none⟩ na ca 2 (Zg (na*2) (YW 2 (slR x))) Tryz.underlying32 hsz (by rw [Zj,hmin]) (by
  intro j u hj
  obtain ⟨h1,rfl⟩:=ZP hj
  obtain ⟨b',off',e',_,e3,e4⟩:=hx.src.at_ j h1
  cases e'
  rw [show ((⟨ba,oa,none⟩:Addr).add j)=⟨ba,oa+j,none⟩ by unfold Addr.add;split<;>simp_all]
  exact e4) (by intro j hj;rw [Zj] at hj;rw [Nat.zero_add,hr.cell j (by omega)];rfl) (by intro j _;exact hr.free _) (by intro v hv;obtain ⟨i,hi,rfl⟩:=List.mem_map.1 hv;exact hx.src.one i (by simpa using hi))
 have R1:=hid (hr.fill (YW 2 (slR x)) (l:=na*2) (by omega))
 have F1:=hid (FrP.of_fr (P:=fun q=>q=R) (Zx R (Zg (na*2) (YW 2 (slR x))) 0 w) (fun k h1 h2=>by omega))
 have AT1:Hid (∀ i,i<max na 0→atSl (fun j=>if j<na*2 then YW 2 (slR x) j else c0 j) i (mgS na x 0 y i)):=fun i hi=>by
  have h9:i<na:=by omega
  obtain ⟨q0,q1⟩:=Ud x i
  rw [show mgS na x 0 y i=x i by simp [mgS,h9]]
  exact ⟨(if_pos (by omega)).trans q0,(if_pos (by omega)).trans q1⟩
 have HX:=hid hx
 have HY:=hid hy
 clear hx hy hr hmin
 go_enter Tryz.func173,Tryz.ntmps173
 go_wp2
 clear hrun
 generalize w.setCells R 0 (Zg (na*2) (YW 2 (slR x)))=W at *
 go_loopw [16] (fun i wr=>∃ (k:Nat) (c:Nat→Value),k≤nb∧i=.int .i64 k∧FrP (fun q=>q=R) w wr∧RowF wr R 120 c∧Hid (∀ i,i<max na k→atSl c i (mgS na x k y i))) (fun i _=>nb-(intOf i).toNat)
 case atStart=>exact ⟨0,_,zle _,rfl,F1.out,R1.out,AT1.out⟩
 case round=>
  obtain ⟨k,c,hk,rfl,fr,rr,AT⟩:=hrel
  by_cases hkn:k<nb
  ·obtain ⟨b',off',e',hlo,hbh,hcy⟩:=HY.out k hkn
   cases e'
   have hzw:=fr.size
   have hbl:Below hi w wr:=fr.below (B:=hi) (fun q hq e=>by omega) (by omega)
   obtain ⟨e0,e1⟩:=hcy.below hbl hbh
   by_cases hge:(na:Int)≤k
   ·go_wp2
    have hbX:=Zb wr (.cells #[.int .i64 (y k).bal,.string (y k).text] 109)
    have g0:(wr.alloc (.cells #[.int .i64 (y k).bal,.string (y k).text] 109)).cell? ⟨wr.1.size,0,none⟩=some (.int .i64 (y k).bal):=Zt wr _ 109 0
    have g1:(wr.alloc (.cells #[.int .i64 (y k).bal,.string (y k).text] 109)).cell? ⟨wr.1.size,1,none⟩=some (.string (y k).text):=Zt wr _ 109 1
    have hzX:(wr.alloc (.cells #[.int .i64 (y k).bal,.string (y k).text] 109)).1.size=wr.1.size+1:=World.size_alloc _ _
    generalize wr.alloc (.cells #[.int .i64 (y k).bal,.string (y k).text] 109)=X at *
    have hne:Nonempty (GW X):=⟨⟨X,br _ _⟩⟩
    have s0:=Zc g0 (by show wr.1.size<_;omega)
    have s1:=Zc g1 (by show wr.1.size<_;omega)
    refine Zf (by kernel_rfl) (by kernel_rfl) ?_
    repeat (first|(go_big_quiet_step ((go_at_call 174;go_must (exact Zp (Jb (x k) (y k) _)))))|(refine wpQuiet_step (fun K hK=>?_);go_simp;refine hK _ ?_;clear hK K))
    refine wpQuiet_nil ?_
    rintro w5 ⟨u,hu⟩
    have hw5:Below X.1.size X w5:=hu▸u.prop
    have hr5:Below wr.1.size wr w5:=hbX.trans (hw5.mono (by omega))
    have RW:=hid (rr.below hr5 rr.lt)
    have FR:=hid (fr.trans (FrP.of_below hr5))
    have q0:=(hw5.cell (p:=⟨wr.1.size,0,none⟩) (by show wr.1.size<_;omega)).trans g0
    have q1:=(hw5.cell (p:=⟨wr.1.size,1,none⟩) (by show wr.1.size<_;omega)).trans g1
    have t0:=RW.out.cell (k*2) (by omega)
    have t1:=RW.out.cell (k*2+1) (by omega)
    have tf:=RW.out.free
    have AT2:Hid (∀ i,i<max na (k+1)→atSl (setF (setF c (k*2) (.int .i64 (y k).bal)) (k*2+1) (.string (y k).text)) i (mgS na x (k+1) y i)):=fun i hi9=>by
     by_cases e:i=k
     ·subst e
      rw [show mgS na x (i+1) y i=y i by simp [mgS,show ¬i<na by omega]]
      exact ⟨(if_neg (by omega)).trans (if_pos rfl),if_pos rfl⟩
     ·rw [Kv e]
      exact Yy (Yy (AT.out i (by omega)) e (k:=k) (by omega) (by omega) _) e (k:=k) (by omega) (by omega) _
    clear hu u hne s0 s1 g0 g1 hbX hw5
    exact apRa3
   ·have hka:k<na:=by omega
    have hnk:¬na≤k:=by omega
    obtain ⟨b',off',e',hlo2,hbh2,hcx⟩:=HX.out k hka
    cases e'
    obtain ⟨d0,d1⟩:=hcx.below hbl hbh2
    by_cases hcm:(x k).bal<(y k).bal
    ·have hcv:cmpV (x k).bal (y k).bal<0:=by have:=cmpV_neg (x k).bal (y k).bal;simpa [hcm] using this
     have HCM:=hid hcm
     clear hcm
     go_wp2
     have hbX:=Zb wr (.cells #[.int .i64 (y k).bal,.string (y k).text] 109)
     have g0:(wr.alloc (.cells #[.int .i64 (y k).bal,.string (y k).text] 109)).cell? ⟨wr.1.size,0,none⟩=some (.int .i64 (y k).bal):=Zt wr _ 109 0
     have g1:(wr.alloc (.cells #[.int .i64 (y k).bal,.string (y k).text] 109)).cell? ⟨wr.1.size,1,none⟩=some (.string (y k).text):=Zt wr _ 109 1
     have hzX:(wr.alloc (.cells #[.int .i64 (y k).bal,.string (y k).text] 109)).1.size=wr.1.size+1:=World.size_alloc _ _
     have d2:=(hbX.cell (p:=⟨ba,oa+k*2,none⟩) (by show ba<_;omega)).trans d0
     have d3:=(hbX.cell (p:=⟨ba,oa+k*2+1,none⟩) (by show ba<_;omega)).trans d1
     generalize wr.alloc (.cells #[.int .i64 (y k).bal,.string (y k).text] 109)=X at *
     have hne:Nonempty (GW X):=⟨⟨X,br _ _⟩⟩
     have s0:=Zc g0 (by show wr.1.size<_;omega)
     have s1:=Zc g1 (by show wr.1.size<_;omega)
     have s2:=Zc d2 (by show ba<_;omega)
     have s3:=Zc d3 (by show ba<_;omega)
     refine Zf (by kernel_rfl) (by kernel_rfl) ?_
     repeat (first|(go_big_quiet_step ((go_at_call 174;go_must (exact Zp (Jb (x k) (y k) _)))))|(refine wpQuiet_step (fun K hK=>?_);go_simp;refine hK _ ?_;clear hK K))
     refine wpQuiet_nil ?_
     rintro w5 ⟨u,hu⟩
     have hw5:Below X.1.size X w5:=hu▸u.prop
     have hr5:Below wr.1.size wr w5:=hbX.trans (hw5.mono (by omega))
     have RW:=hid (rr.below hr5 rr.lt)
     have FR:=hid (fr.trans (FrP.of_below hr5))
     have q0:=(hw5.cell (p:=⟨wr.1.size,0,none⟩) (by show wr.1.size<_;omega)).trans g0
     have q1:=(hw5.cell (p:=⟨wr.1.size,1,none⟩) (by show wr.1.size<_;omega)).trans g1
     have t0:=RW.out.cell (k*2) (by omega)
     have t1:=RW.out.cell (k*2+1) (by omega)
     have tf:=RW.out.free
     have AT2:Hid (∀ i,i<max na (k+1)→atSl (setF (setF c (k*2) (.int .i64 (y k).bal)) (k*2+1) (.string (y k).text)) i (mgS na x (k+1) y i)):=fun i hi9=>by
      by_cases e:i=k
      ·subst e
       rw [show mgS na x (i+1) y i=y i by simp [mgS,hka,HCM.out]]
       exact ⟨(if_neg (by omega)).trans (if_pos rfl),if_pos rfl⟩
      ·rw [Kv e]
       exact Yy (Yy (AT.out i (by omega)) e (k:=k) (by omega) (by omega) _) e (k:=k) (by omega) (by omega) _
     clear hu u hne s0 s1 g0 g1 hbX hw5 s2 s3 d2 d3
     exact apRa3
    ·have hcv:¬cmpV (x k).bal (y k).bal<0:=by have:=cmpV_neg (x k).bal (y k).bal;simpa [hcm] using this
     have HCM:=hid hcm
     clear hcm
     go_wp2
     have hbX:=Zb wr (.cells #[.int .i64 (y k).bal,.string (y k).text] 109)
     have g0:(wr.alloc (.cells #[.int .i64 (y k).bal,.string (y k).text] 109)).cell? ⟨wr.1.size,0,none⟩=some (.int .i64 (y k).bal):=Zt wr _ 109 0
     have g1:(wr.alloc (.cells #[.int .i64 (y k).bal,.string (y k).text] 109)).cell? ⟨wr.1.size,1,none⟩=some (.string (y k).text):=Zt wr _ 109 1
     have hzX:(wr.alloc (.cells #[.int .i64 (y k).bal,.string (y k).text] 109)).1.size=wr.1.size+1:=World.size_alloc _ _
     have d2:=(hbX.cell (p:=⟨ba,oa+k*2,none⟩) (by show ba<_;omega)).trans d0
     have d3:=(hbX.cell (p:=⟨ba,oa+k*2+1,none⟩) (by show ba<_;omega)).trans d1
     generalize wr.alloc (.cells #[.int .i64 (y k).bal,.string (y k).text] 109)=X at *
     have hne:Nonempty (GW X):=⟨⟨X,br _ _⟩⟩
     have s0:=Zc g0 (by show wr.1.size<_;omega)
     have s1:=Zc g1 (by show wr.1.size<_;omega)
     have s2:=Zc d2 (by show ba<_;omega)
     have s3:=Zc d3 (by show ba<_;omega)
     refine Zf (by kernel_rfl) (by kernel_rfl) ?_
     repeat (first|(go_big_quiet_step ((go_at_call 174;go_must (exact Zp (Jb (x k) (y k) _)))))|(refine wpQuiet_step (fun K hK=>?_);go_simp;refine hK _ ?_;clear hK K))
     refine wpQuiet_nil ?_
     rintro w5 ⟨u,hu⟩
     have hw5:Below X.1.size X w5:=hu▸u.prop
     have hr5:Below wr.1.size wr w5:=hbX.trans (hw5.mono (by omega))
     have RW:=hid (rr.below hr5 rr.lt)
     have FR:=hid (fr.trans (FrP.of_below hr5))
     have AT2:Hid (∀ i,i<max na (k+1)→atSl c i (mgS na x (k+1) y i)):=fun i hi9=>by
      by_cases e:i=k
      ·subst e
       rw [show mgS na x (i+1) y i=mgS na x i y i by (simp [mgS,hka];exact fun h=>absurd h (by have:=HCM.out;omega))]
       exact AT.out i (by omega)
      ·rw [Kv e]
       exact AT.out i (by omega)
     clear hu u hne s0 s1 g0 g1 hbX hw5 s2 s3 d2 d3
     go_wp2
     go_roundw
     case rel=>exact ⟨k+1,_,by omega,by go_num,FR.out,RW.out,AT2.out⟩
     case measure=>simp [intOf];omega
  ·have hke:k=nb:=by omega
   subst hke
   have FRH:=hid fr
   have RRH:=hid rr
   clear fr rr
   rcases Nat.lt_trichotomy k na with hmx|hmx|hmx
   ·have hmi:(k:Int)<na:=by omega
    have HMX:Hid (max na k=na):=Nat.max_eq_left (by omega)
    exact apRa2
   ·subst hmx
    have HMX:Hid (max k k=k):=Nat.max_self k
    exact apRa2
   ·have hmi:(na:Int)<k:=by omega
    have HMX:Hid (max na k=k):=Nat.max_eq_right (by omega)
    exact apRa2
end Go.Proofs.YtokkbdlofbdljaaGreat
