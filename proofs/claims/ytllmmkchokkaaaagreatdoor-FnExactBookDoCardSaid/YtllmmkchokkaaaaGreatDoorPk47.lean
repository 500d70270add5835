import Derived.Test.YtllmmkchokkaaaaGreatDoorPk39
set_option maxRecDepth 100000
set_option maxHeartbeats 4000000
namespace Go.Proofs.YtllmmkchokkaaaaGreatDoor
open Go.RowKit Go.Maps
theorem implDo_bad (B:Bk) (v:Wr) (a1 a2 a3:Option Addr) (c1 c2 c3:Nat) (w:World) (lo hi:Nat) (hhi:hi≤w.1.size) (hf:BkFit B) (hc:BkIn w lo hi B a1 a2 a3) (wf:WrFit v) (hv:allTo (chk B) 7=false) :
  Calls Tryz.prog 11 #[.agg #[.int .i64 B.now,.int .i64 B.floor,.slice a1 B.on c1,.slice a2 B.hn c2,.slice a3 B.tn c3],.agg #[.int .i64 v.op,.string v.kind,.string v.name,.int .i64 v.seen,.string v.text,.string v.hold]] w (DoI B v w):=by
 have B3:∀ o1 o2 o3,Below w.1.size w (((w.alloc o1).alloc o2).alloc o3):=fun o1 o2 o3=>(((Below.refl _ _).alloc (Nat.le_refl _) _).alloc (by simp) _).alloc (by simp;omega) _
 have HB3:=hid B3
 have HC:=hid hc
 have HF:=hid hf
 have HWF:=hid wf
 have HV:=hid hv
 clear hc hf wf hv B3
 go_enter Tryz.func11,Tryz.ntmps11
 go_wp2_with fail
 refine (implValid_any B a1 a2 a3 c1 c2 c3 _ lo hi (by simp;omega) HF.out (HC.out.below (HB3.out _ _ _) hhi)).mono ?_
 rintro e w1 ⟨rfl,hb1⟩
 rw [HV.out]
 have z1:w.1.size+1+1<w1.1.size:=by have:=hb1.size;simp at this;omega
 have zA1:w.1.size<w1.1.size:=by omega
 have zB1:w.1.size+1<w1.1.size:=by omega
 obtain ⟨X0,X1,X2,Y1,Y2⟩:=three_cell hb1
 have b0:=X0 0
 have b1:=X0 1
 have b2:=X0 2
 have b3:=X0 3
 have b4:=X0 4
 have p0:=X1 0
 have p1:=X1 1
 have p2:=X1 2
 have p3:=X1 3
 have p4:=X1 4
 have p5:=X1 5
 have r0:=X2 0
 have r1:=X2 1
 have r2:=X2 2
 have r3:=X2 3
 have r4:=X2 4
 have r5:=X2 5
 have r6:=X2 6
 simp only [List.getElem?_toArray,List.getElem?_cons_succ,List.getElem?_cons_zero] at b0 b1 b2 b3 b4 p0 p1 p2 p3 p4 p5 r0 r1 r2 r3 r4 r5 r6
 have HB1:=hid ((HB3.out _ _ _).trans (hb1.mono (by simp;omega)))
 clear hb1 X0 X1 X2
 go_wp2
 have hg:goB B v=false:=by unfold goB;rw [HV.out];rfl
 refine bodyPost_ret (v:=.agg #[.int .i64 1,.int .i64 0,.int .i64 0,.slice none 0 0,.slice none 0 0,.slice none 0 0,.int .i64 0]) (by simp [results,Tryz.results11,go_sem,r0,r1,r2,r3,r4,r5,r6]) rfl ⟨⟨none,none,none,0,0,0,fun _=>none,fun _=>0,fun _=>0,fun _=>none,fun _=>0,fun _=>0⟩,0,0,0,?_,?_,?_,by repeat (first|with_reducible exact HB1.out|with_reducible refine Below.setCell ?_ (by first|omega|(simp;omega)) _|with_reducible refine Below.alloc ?_ (by first|omega|(simp;omega)) _|with_reducible refine Below.drew ?_)⟩
 ·have e1:didC B v=1:=by unfold didC;rw [HV.out];rfl
  have e2:didV B v=0:=by unfold didV;rw [hg];rfl
  have e3:didB B v=bk0:=by unfold didB;rw [hg];rfl
  rw [e1,e2,e3]
  rfl
 ·have e3:didB B v=bk0:=by unfold didB;rw [hg];rfl
  rw [e3]
  exact bkAt0 _ _
 ·have e3:didB B v=bk0:=by unfold didB;rw [hg];rfl
  rw [e3]
  exact fun q hq=>(blkB0 hq).elim
theorem implDo_miss (B:Bk) (v:Wr) (a1 a2 a3:Option Addr) (c1 c2 c3:Nat) (w:World) (lo hi:Nat) (hhi:hi≤w.1.size) (hf:BkFit B) (hc:BkIn w lo hi B a1 a2 a3) (wf:WrFit v) (hv:allTo (chk B) 7=true) (hw:wrB v=false) :
  Calls Tryz.prog 11 #[.agg #[.int .i64 B.now,.int .i64 B.floor,.slice a1 B.on c1,.slice a2 B.hn c2,.slice a3 B.tn c3],.agg #[.int .i64 v.op,.string v.kind,.string v.name,.int .i64 v.seen,.string v.text,.string v.hold]] w (DoI B v w):=by
 have HW:=hid hw
 clear hw
 have B3:∀ o1 o2 o3,Below w.1.size w (((w.alloc o1).alloc o2).alloc o3):=fun o1 o2 o3=>(((Below.refl _ _).alloc (Nat.le_refl _) _).alloc (by simp) _).alloc (by simp;omega) _
 have HB3:=hid B3
 have HC:=hid hc
 have HF:=hid hf
 have HWF:=hid wf
 have HV:=hid hv
 clear hc hf wf hv B3
 go_enter Tryz.func11,Tryz.ntmps11
 go_wp2_with fail
 refine (implValid_any B a1 a2 a3 c1 c2 c3 _ lo hi (by simp;omega) HF.out (HC.out.below (HB3.out _ _ _) hhi)).mono ?_
 rintro e w1 ⟨rfl,hb1⟩
 rw [HV.out]
 have z1:w.1.size+1+1<w1.1.size:=by have:=hb1.size;simp at this;omega
 have zA1:w.1.size<w1.1.size:=by omega
 have zB1:w.1.size+1<w1.1.size:=by omega
 obtain ⟨X0,X1,X2,Y1,Y2⟩:=three_cell hb1
 have b0:=X0 0
 have b1:=X0 1
 have b2:=X0 2
 have b3:=X0 3
 have b4:=X0 4
 have p0:=X1 0
 have p1:=X1 1
 have p2:=X1 2
 have p3:=X1 3
 have p4:=X1 4
 have p5:=X1 5
 have r0:=X2 0
 have r1:=X2 1
 have r2:=X2 2
 have r3:=X2 3
 have r4:=X2 4
 have r5:=X2 5
 have r6:=X2 6
 simp only [List.getElem?_toArray,List.getElem?_cons_succ,List.getElem?_cons_zero] at b0 b1 b2 b3 b4 p0 p1 p2 p3 p4 p5 r0 r1 r2 r3 r4 r5 r6
 have HB1:=hid ((HB3.out _ _ _).trans (hb1.mono (by simp;omega)))
 have H1:=hid hb1
 clear hb1
 go_wp2_with fail
 clear b0 b1 b2 b3 b4 p0 p1 p2 p3 p4 p5 r0 r1 r2 r3 r4 r5 r6 X0 X1 X2 Y1 Y2
 refine (writeFits_any v HWF.out w1).mono ?_
 rintro e w2 ⟨rfl,hb2⟩
 rw [HW.out]
 have hb12:=H1.out.trans (hb2.mono H1.out.size)
 have z2:=hb2.size
 have zA2:w.1.size<w2.1.size:=by omega
 have zB2:w.1.size+1<w2.1.size:=by omega
 have zC2:w.1.size+1+1<w2.1.size:=by omega
 obtain ⟨X0,X1,X2,Y1,Y2⟩:=three_cell hb12
 have b0:=X0 0
 have b1:=X0 1
 have b2:=X0 2
 have b3:=X0 3
 have b4:=X0 4
 have p0:=X1 0
 have p1:=X1 1
 have p2:=X1 2
 have p3:=X1 3
 have p4:=X1 4
 have p5:=X1 5
 have r0:=X2 0
 have r1:=X2 1
 have r2:=X2 2
 have r3:=X2 3
 have r4:=X2 4
 have r5:=X2 5
 have r6:=X2 6
 simp only [List.getElem?_toArray,List.getElem?_cons_succ,List.getElem?_cons_zero] at b0 b1 b2 b3 b4 p0 p1 p2 p3 p4 p5 r0 r1 r2 r3 r4 r5 r6
 have HB2:=hid (HB1.out.trans (hb2.mono (by omega)))
 have H2:=hid hb12
 clear hb2 hb12
 clear X0 X1 X2
 go_wp2
 have hg:goB B v=false:=by unfold goB;rw [HW.out];simp
 refine bodyPost_ret (v:=.agg #[.int .i64 2,.int .i64 0,.int .i64 0,.slice none 0 0,.slice none 0 0,.slice none 0 0,.int .i64 0]) (by simp [results,Tryz.results11,go_sem,r0,r1,r2,r3,r4,r5,r6]) rfl ⟨⟨none,none,none,0,0,0,fun _=>none,fun _=>0,fun _=>0,fun _=>none,fun _=>0,fun _=>0⟩,0,0,0,?_,?_,?_,by repeat (first|with_reducible exact HB2.out|with_reducible refine Below.setCell ?_ (by first|omega|(simp;omega)) _|with_reducible refine Below.alloc ?_ (by first|omega|(simp;omega)) _|with_reducible refine Below.drew ?_)⟩
 ·have e1:didC B v=2:=by unfold didC;rw [HV.out,HW.out];rfl
  have e2:didV B v=0:=by unfold didV;rw [hg];rfl
  have e3:didB B v=bk0:=by unfold didB;rw [hg];rfl
  rw [e1,e2,e3]
  rfl
 ·have e3:didB B v=bk0:=by unfold didB;rw [hg];rfl
  rw [e3]
  exact bkAt0 _ _
 ·have e3:didB B v=bk0:=by unfold didB;rw [hg];rfl
  rw [e3]
  exact fun q hq=>(blkB0 hq).elim
theorem implDo_go (B:Bk) (v:Wr) (a1 a2 a3:Option Addr) (c1 c2 c3:Nat) (w:World) (lo hi:Nat) (hhi:hi≤w.1.size) (hf:BkFit B) (hc:BkIn w lo hi B a1 a2 a3) (wf:WrFit v) (hg:w.cell? ⟨0,0,none⟩=some (.iface 233 (.agg #[.pointer (some ⟨5,86,none⟩)]))) (hw0:0<w.1.size) (hv:allTo (chk B) 7=true) (hw:wrB v=true) :
  Calls Tryz.prog 11 #[.agg #[.int .i64 B.now,.int .i64 B.floor,.slice a1 B.on c1,.slice a2 B.hn c2,.slice a3 B.tn c3],.agg #[.int .i64 v.op,.string v.kind,.string v.name,.int .i64 v.seen,.string v.text,.string v.hold]] w (DoI B v w):=by
 have HW:=hid hw
 have HG:=hid hg
 have HOK:=hid (wok_of hf hv hw wf)
 clear hw hg
 have B3:∀ o1 o2 o3,Below w.1.size w (((w.alloc o1).alloc o2).alloc o3):=fun o1 o2 o3=>(((Below.refl _ _).alloc (Nat.le_refl _) _).alloc (by simp) _).alloc (by simp;omega) _
 have HB3:=hid B3
 have HC:=hid hc
 have HF:=hid hf
 have HWF:=hid wf
 have HV:=hid hv
 clear hc hf wf hv B3
 go_enter Tryz.func11,Tryz.ntmps11
 go_wp2_with fail
 refine (implValid_any B a1 a2 a3 c1 c2 c3 _ lo hi (by simp;omega) HF.out (HC.out.below (HB3.out _ _ _) hhi)).mono ?_
 rintro e w1 ⟨rfl,hb1⟩
 rw [HV.out]
 have z1:w.1.size+1+1<w1.1.size:=by have:=hb1.size;simp at this;omega
 have zA1:w.1.size<w1.1.size:=by omega
 have zB1:w.1.size+1<w1.1.size:=by omega
 obtain ⟨X0,X1,X2,Y1,Y2⟩:=three_cell hb1
 have b0:=X0 0
 have b1:=X0 1
 have b2:=X0 2
 have b3:=X0 3
 have b4:=X0 4
 have p0:=X1 0
 have p1:=X1 1
 have p2:=X1 2
 have p3:=X1 3
 have p4:=X1 4
 have p5:=X1 5
 have r0:=X2 0
 have r1:=X2 1
 have r2:=X2 2
 have r3:=X2 3
 have r4:=X2 4
 have r5:=X2 5
 have r6:=X2 6
 simp only [List.getElem?_toArray,List.getElem?_cons_succ,List.getElem?_cons_zero] at b0 b1 b2 b3 b4 p0 p1 p2 p3 p4 p5 r0 r1 r2 r3 r4 r5 r6
 have HB1:=hid ((HB3.out _ _ _).trans (hb1.mono (by simp;omega)))
 have H1:=hid hb1
 clear hb1
 go_wp2_with fail
 clear b0 b1 b2 b3 b4 p0 p1 p2 p3 p4 p5 r0 r1 r2 r3 r4 r5 r6 X0 X1 X2 Y1 Y2
 refine (writeFits_any v HWF.out w1).mono ?_
 rintro e w2 ⟨rfl,hb2⟩
 rw [HW.out]
 have hb12:=H1.out.trans (hb2.mono H1.out.size)
 have z2:=hb2.size
 have zA2:w.1.size<w2.1.size:=by omega
 have zB2:w.1.size+1<w2.1.size:=by omega
 have zC2:w.1.size+1+1<w2.1.size:=by omega
 obtain ⟨X0,X1,X2,Y1,Y2⟩:=three_cell hb12
 have b0:=X0 0
 have b1:=X0 1
 have b2:=X0 2
 have b3:=X0 3
 have b4:=X0 4
 have p0:=X1 0
 have p1:=X1 1
 have p2:=X1 2
 have p3:=X1 3
 have p4:=X1 4
 have p5:=X1 5
 have r0:=X2 0
 have r1:=X2 1
 have r2:=X2 2
 have r3:=X2 3
 have r4:=X2 4
 have r5:=X2 5
 have r6:=X2 6
 simp only [List.getElem?_toArray,List.getElem?_cons_succ,List.getElem?_cons_zero] at b0 b1 b2 b3 b4 p0 p1 p2 p3 p4 p5 r0 r1 r2 r3 r4 r5 r6
 have HB2:=hid (HB1.out.trans (hb2.mono (by omega)))
 have H2:=hid hb12
 clear hb2 hb12
 go_wp2_with fail
 clear b0 b1 b2 b3 b4 p0 p1 p2 p3 p4 p5 r0 r1 r2 r3 r4 r5 r6 X0 X1 X2 Y1 Y2
 refine (bookCopy_any B a1 a2 a3 c1 c2 c3 w2 lo hi (by omega) HF.out (HC.out.below HB2.out hhi)).mono ?_
 rintro e w3 ⟨p,d1,d2,d3,rfl,hcap,hat,hlo,hb3⟩
 have hb23:=H2.out.trans (hb3.mono H2.out.size)
 have z3:=hb3.size
 have zA3:w.1.size<w3.1.size:=by omega
 have zB3:w.1.size+1<w3.1.size:=by omega
 have zC3:w.1.size+1+1<w3.1.size:=by omega
 obtain ⟨X0,X1,X2,Y1,Y2⟩:=three_cell hb23
 have b0:=X0 0
 have b1:=X0 1
 have b2:=X0 2
 have b3:=X0 3
 have b4:=X0 4
 have p0:=X1 0
 have p1:=X1 1
 have p2:=X1 2
 have p3:=X1 3
 have p4:=X1 4
 have p5:=X1 5
 have r0:=X2 0
 have r1:=X2 1
 have r2:=X2 2
 have r3:=X2 3
 have r4:=X2 4
 have r5:=X2 5
 have r6:=X2 6
 simp only [List.getElem?_toArray,List.getElem?_cons_succ,List.getElem?_cons_zero] at b0 b1 b2 b3 b4 p0 p1 p2 p3 p4 p5 r0 r1 r2 r3 r4 r5 r6
 have HB3w:=hid (HB2.out.trans (hb3.mono (by omega)))
 have H3:=hid hb23
 have HAT:=hid hat
 have HLO:=hid hlo
 have HCAP:=hid hcap
 clear hb3 hb23 hat hlo hcap
 go_wp2_with fail
 clear b0 b1 b2 b3 b4 p0 p1 p2 p3 p4 p5 r0 r1 r2 r3 r4 r5 r6 X0 X1 X2 Y1 Y2
 have hbW:=below_alloc w3 (.cells #[.int .i64 B.now,.int .i64 B.floor,.slice p.a1 B.on d1,.slice p.a2 B.hn d2,.slice p.a3 B.tn d3] 35)
 refine (write_copy B v p d1 d2 d3 w3 _ w3.1.size HOK.out HAT.out HCAP.out hbW (Nat.le_refl _) (RowF.new (w:=w3) (l:=[.int .i64 B.now,.int .i64 B.floor,.slice p.a1 B.on d1,.slice p.a2 B.hn d2,.slice p.a3 B.tn d3]) (t:=35) (Below.refl _ _))).mono ?_
 rintro e w4 (⟨hcd,rfl,hb4⟩|⟨hcd,rfl,hf4,q,c1',c2',hr4,hat4,hbl4⟩)
 ·have hb34:=hbW.trans (hb4.mono hbW.size)
  have hbAll:=H3.out.trans (hb34.mono H3.out.size)
  have z4:w3.1.size<w4.1.size:=by have:=hb4.size;simp at this;omega
  have zA4:w.1.size<w4.1.size:=by omega
  have zB4:w.1.size+1<w4.1.size:=by omega
  have zC4:w.1.size+1+1<w4.1.size:=by omega
  have rk:=RowF.new (w:=w3) (l:=[.int .i64 B.now,.int .i64 B.floor,.slice p.a1 B.on d1,.slice p.a2 B.hn d2,.slice p.a3 B.tn d3]) (t:=35) hb4
  have k0:=rk.cell 0 (by simp)
  have k1:=rk.cell 1 (by simp)
  have k2:=rk.cell 2 (by simp)
  have k3:=rk.cell 3 (by simp)
  have k4:=rk.cell 4 (by simp)
  simp only [vec,List.getD_cons_zero,List.getD_cons_succ] at k0 k1 k2 k3 k4
  obtain ⟨X0,X1,X2,Y1,Y2⟩:=three_cell hbAll
  have b0:=X0 0
  have b1:=X0 1
  have b2:=X0 2
  have b3:=X0 3
  have b4:=X0 4
  have p0:=X1 0
  have p1:=X1 1
  have p2:=X1 2
  have p3:=X1 3
  have p4:=X1 4
  have p5:=X1 5
  have r0:=X2 0
  have r1:=X2 1
  have r2:=X2 2
  have r3:=X2 3
  have r4:=X2 4
  have r5:=X2 5
  have r6:=X2 6
  simp only [List.getElem?_toArray,List.getElem?_cons_succ,List.getElem?_cons_zero] at b0 b1 b2 b3 b4 p0 p1 p2 p3 p4 p5 r0 r1 r2 r3 r4 r5 r6
  have HB4:=hid (HB3w.out.trans (hb34.mono (by omega)))
  have HK4:=hid (HAT.out.grow hb34)
  have HA4:=hid hbAll
  have HG4:=hid ((HB4.out.cell (p:=⟨0,0,none⟩) hw0).trans HG.out)
  have HRK:=hid rk
  have HCD:=hid hcd
  clear hb4 hb34 hbAll hbW rk hcd
  go_wp2_with fail
  clear k0 k1 k2 k3 k4
  clear b0 b1 b2 b3 b4 p0 p1 p2 p3 p4 p5 r0 r1 r2 r3 r4 r5 r6 X0 X1 X2 Y1 Y2
  refine (refusalOf_any v (wCode B v) (oVer B v) w4 HG4.out).mono ?_
  rintro e w5 ⟨rfl,hb5⟩
  have hb5':=HA4.out.trans (hb5.mono HA4.out.size)
  have z5:=hb5.size
  have zK5:w3.1.size<w5.1.size:=by omega
  have zA5:w.1.size<w5.1.size:=by omega
  have zB5:w.1.size+1<w5.1.size:=by omega
  have zC5:w.1.size+1+1<w5.1.size:=by omega
  have rk5:=HRK.out.below hb5 z4
  have k0:=rk5.cell 0 (by simp)
  have k1:=rk5.cell 1 (by simp)
  have k2:=rk5.cell 2 (by simp)
  have k3:=rk5.cell 3 (by simp)
  have k4:=rk5.cell 4 (by simp)
  simp only [vec,List.getD_cons_zero,List.getD_cons_succ] at k0 k1 k2 k3 k4
  obtain ⟨X0,X1,X2,Y1,Y2⟩:=three_cell hb5'
  have b0:=X0 0
  have b1:=X0 1
  have b2:=X0 2
  have b3:=X0 3
  have b4:=X0 4
  have p0:=X1 0
  have p1:=X1 1
  have p2:=X1 2
  have p3:=X1 3
  have p4:=X1 4
  have p5:=X1 5
  have r0:=X2 0
  have r1:=X2 1
  have r2:=X2 2
  have r3:=X2 3
  have r4:=X2 4
  have r5:=X2 5
  have r6:=X2 6
  simp only [List.getElem?_toArray,List.getElem?_cons_succ,List.getElem?_cons_zero] at b0 b1 b2 b3 b4 p0 p1 p2 p3 p4 p5 r0 r1 r2 r3 r4 r5 r6
  have HB5:=hid (HB4.out.trans (hb5.mono (by omega)))
  have HK5:=hid (HK4.out.grow hb5)
  clear hb5 hb5' rk5 X0 X1 X2
  go_wp2
  have hgo:goB B v=true:=by unfold goB;rw [HV.out,HW.out];rfl
  have e1:didC B v=wCode B v:=by unfold didC;rw [HV.out,HW.out];rfl
  have e2:didV B v=oVer B v:=by unfold didV;rw [hgo,if_pos rfl,if_neg HCD.out]
  have e3:didB B v=B:=by unfold didB;rw [hgo,if_pos rfl,if_neg HCD.out]
  refine bodyPost_ret (v:=.agg #[.int .i64 (wCode B v),.int .i64 B.now,.int .i64 B.floor,.slice p.a1 B.on d1,.slice p.a2 B.hn d2,.slice p.a3 B.tn d3,.int .i64 (oVer B v)]) (by simp [results,Tryz.results11,go_sem,r0,r1,r2,r3,r4,r5,r6,(show w.1.size+1+1<w5.1.size by omega),World.cell?_alloc_lt]) rfl ⟨p,d1,d2,d3,?_,?_,?_,by repeat (first|with_reducible exact HB5.out|with_reducible refine Below.setCell ?_ (by first|omega|(simp;omega)) _|with_reducible refine Below.alloc ?_ (by first|omega|(simp;omega)) _|with_reducible refine Below.drew ?_)⟩
  ·rw [e1,e2,e3]
  ·rw [e3]
   exact HK5.out.fr (P:=fun q=>q=w.1.size+1+1) (by repeat (first|with_reducible exact FrP.refl _ _|with_reducible refine FrP.setCell (P:=fun q=>q=w.1.size+1+1) ?_ rfl _|with_reducible refine FrP.trans ?_ (FrP.of_below (below_alloc _ _)))) (fun q hq e=>by have:=HLO.out q hq;omega)
  ·rw [e3]
   exact fun q hq=>by have:=HLO.out q hq;omega
 ·have hz4:w3.1.size+1≤w4.1.size:=by have:=hf4.size;simp at this;omega
  have zK4:w3.1.size<w4.1.size:=by omega
  have zC4:w.1.size+1+1<w4.1.size:=by omega
  have nK:¬w.1.size+1+1=w3.1.size:=by omega
  obtain ⟨X0,X1,X2,Y1,Y2⟩:=three_cell H3.out
  have T:∀ i,w4.cell? ⟨w.1.size+1+1,i,none⟩=#[.int .i64 0,.int .i64 0,.int .i64 0,.slice none 0 0,.slice none 0 0,.slice none 0 0,.int .i64 0][i]?:=fun i=>(hf4.cell (p:=⟨w.1.size+1+1,i,none⟩) (by simp;omega) nK).trans ((hbW.cell (p:=⟨w.1.size+1+1,i,none⟩) zC3).trans (X2 i))
  have Tf:∀ i,w4.frozen? ⟨w.1.size+1+1,i,none⟩=false:=fun i=>(hf4.frozen (p:=⟨w.1.size+1+1,i,none⟩) (by simp;omega) nK).trans ((hbW.frozen (p:=⟨w.1.size+1+1,i,none⟩) zC3).trans (Y2 i))
  have r0:=T 0
  have r1:=T 1
  have r2:=T 2
  have r3:=T 3
  have r4:=T 4
  have r5:=T 5
  have r6:=T 6
  simp only [List.getElem?_toArray,List.getElem?_cons_succ,List.getElem?_cons_zero] at r0 r1 r2 r3 r4 r5 r6
  have k0:=hr4.cell 0 (by simp)
  have k1:=hr4.cell 1 (by simp)
  have k2:=hr4.cell 2 (by simp)
  have k3:=hr4.cell 3 (by simp)
  have k4:=hr4.cell 4 (by simp)
  simp only [vec,List.getD_cons_zero,List.getD_cons_succ] at k0 k1 k2 k3 k4
  have HB4:=hid (show Below w.1.size w w4 from (HB3w.out.trans (hbW.mono (by omega))).trans (hf4.below (B:=w.1.size) (fun q hq e=>by omega) (by simp;omega)))
  have HAT4:=hid hat4
  have HBL:=hid hbl4
  have HCD:=hid hcd
  clear hf4 hr4 hat4 hbl4 hcd T X0 X1 X2 Y1 Y2 hbW
  go_wp2
  have hgo:goB B v=true:=by unfold goB;rw [HV.out,HW.out];rfl
  have e1:didC B v=0:=by unfold didC;rw [HV.out,HW.out];exact HCD.out
  have e2:didV B v=(wBk B v).now:=by unfold didV;rw [hgo,if_pos rfl,if_pos HCD.out];rfl
  have e3:didB B v=wBk B v:=by unfold didB;rw [hgo,if_pos rfl,if_pos HCD.out]
  refine bodyPost_ret (v:=.agg #[.int .i64 0,.int .i64 (wBk B v).now,.int .i64 (wBk B v).floor,.slice q.a1 (wBk B v).on c1',.slice q.a2 (wBk B v).hn c2',.slice q.a3 (wBk B v).tn d3,.int .i64 (wBk B v).now]) (by simp [results,Tryz.results11,go_sem,r0,r1,r2,r3,r4,r5,r6]) rfl ⟨q,c1',c2',d3,?_,?_,?_,by repeat (first|with_reducible exact HB4.out|with_reducible refine Below.setCell ?_ (by first|omega|(simp;omega)) _|with_reducible refine Below.alloc ?_ (by first|omega|(simp;omega)) _|with_reducible refine Below.drew ?_)⟩
  ·rw [e1,e2,e3]
  ·rw [e3]
   refine HAT4.out.fr (P:=fun q=>q=w.1.size+1+1) (by repeat (first|with_reducible exact FrP.refl _ _|with_reducible refine FrP.setCell (P:=fun q=>q=w.1.size+1+1) ?_ rfl _|with_reducible refine FrP.trans ?_ (FrP.of_below (below_alloc _ _)))) (fun k hk e=>?_)
   rcases HBL.out k hk with h|h
   ·have:=HLO.out k h;omega
   ·omega
  ·rw [e3]
   intro k hk
   rcases HBL.out k hk with h|h
   ·have:=HLO.out k h;omega
   ·omega
end Go.Proofs.YtllmmkchokkaaaaGreatDoor
