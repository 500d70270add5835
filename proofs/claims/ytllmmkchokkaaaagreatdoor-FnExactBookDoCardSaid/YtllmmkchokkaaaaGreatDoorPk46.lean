import Derived.Test.YtllmmkchokkaaaaGreatDoorPk42
import Derived.Test.YtllmmkchokkaaaaGreatDoorPk45
import Derived.Test.YtllmmkchokkaaaaGreatDoorPk15
set_option maxRecDepth 100000
set_option maxHeartbeats 8000000
namespace Go.Proofs.YtllmmkchokkaaaaGreatDoor
open Go.RowKit Go.Maps
def DoS (B:Bk) (v:Wr) (w:World) (e:Ending) (w':World):Prop:=
 Below w.1.size w w'∧∃ (a1 a2 a3:Option Addr) (c1 c2 c3:Nat),e=.returned (.agg #[.int .i64 (didC B v),.int .i64 (didB B v).now,.int .i64 (didB B v).floor,.slice a1 (didB B v).on c1,.slice a2 (didB B v).hn c2,.slice a3 (didB B v).tn c3,.int .i64 (didV B v)])∧BkIn w' w.1.size w'.1.size (didB B v) a1 a2 a3
theorem BkIn.dn {w:World} {lo lo' hi:Nat} {x:Bk} {a1 a2 a3:Option Addr} (h:BkIn w lo hi x a1 a2 a3) (hl:lo'≤lo):BkIn w lo' hi x a1 a2 a3:=
 ⟨fun i h'=>by
  obtain ⟨b,off,ah,ch,e1,e2,e3,e4,e5⟩:=h.o i h'
  refine ⟨b,off,ah,ch,e1,by omega,e3,e4,fun j hj=>?_⟩
  obtain ⟨b',off',g1,g2,g3,g4⟩:=e5 j hj
  exact ⟨b',off',g1,by omega,g3,g4⟩,fun i h'=>by
  obtain ⟨b,off,ah,ch,e1,e2,e3,e4,e5⟩:=h.h i h'
  refine ⟨b,off,ah,ch,e1,by omega,e3,e4,fun j hj=>?_⟩
  obtain ⟨b',off',g1,g2,g3,g4⟩:=e5 j hj
  exact ⟨b',off',g1,by omega,g3,g4⟩,fun i h'=>by
  obtain ⟨b,off,e1,e2,e3,e4⟩:=h.t i h'
  exact ⟨b,off,e1,by omega,e3,e4⟩⟩
theorem doS_zero {B:Bk} {v:Wr} {w w':World} {c:Int} (hg:goB B v=false) (hcd:didC B v=c) (hb:Below w.1.size w w'):DoS B v w (.returned (.agg #[.int .i64 c,.int .i64 0,.int .i64 0,.slice none 0 0,.slice none 0 0,.slice none 0 0,.int .i64 0])) w':=by
 have e1:didB B v=bk0:=by unfold didB;rw [if_neg (by rw [hg];decide)]
 have e2:didV B v=0:=by unfold didV;rw [if_neg (by rw [hg];decide)]
 refine ⟨hb,none,none,none,0,0,0,?_,?_⟩
 ·rw [hcd,e1,e2]
  rfl
 ·rw [e1]
  exact ⟨fun i hi=>absurd hi (Nat.not_lt_zero _),fun i hi=>absurd hi (Nat.not_lt_zero _),fun i hi=>absurd hi (Nat.not_lt_zero _)⟩
theorem specDo_bad (B:Bk) (v:Wr) (a1 a2 a3:Option Addr) (c1 c2 c3:Nat) (w:World) (hf:BkFit B) (hc:BkIn w 0 w.1.size B a1 a2 a3) (wf:WrFit v) (hv:allTo (chk B) 7=false) :
  Calls Tryz.prog 8 #[.agg #[.int .i64 B.now,.int .i64 B.floor,.slice a1 B.on c1,.slice a2 B.hn c2,.slice a3 B.tn c3],.agg #[.int .i64 v.op,.string v.kind,.string v.name,.int .i64 v.seen,.string v.text,.string v.hold]] w fun e w'=>DoS B v w e w':=by
 have B3:∀ o1 o2 o3,Below w.1.size w (((w.alloc o1).alloc o2).alloc o3):=fun o1 o2 o3=>(((Below.refl _ _).alloc (Nat.le_refl _) _).alloc (by simp) _).alloc (by simp;omega) _
 have HB3:=hid B3
 have HF:=hid hf
 have HBK:=hid hc
 have HWF:=hid wf
 clear B3 hf hc wf
 have HV:=hid hv
 clear hv
 go_enter Tryz.func8,Tryz.ntmps8
 go_wp2_with fail
 refine (specValid_any B a1 a2 a3 c1 c2 c3 _ 0 w.1.size (by simp;omega) HF.out (HBK.out.below (HB3.out _ _ _) (Nat.le_refl _))).mono ?_
 rintro e w1 ⟨rfl,hb1⟩
 rw [HV.out]
 have z1:w.1.size+1+1<w1.1.size:=by have:=hb1.size;simp at this;omega
 have HB1:=hid hb1
 have HBW:=hid ((HB3.out _ _ _).trans (hb1.mono (by simp;omega)))
 obtain ⟨X0,X1,X2,Y1,Y2⟩:=three_cell hb1
 have b0:=X0 0
 have b1:=X0 1
 have b2:=X0 2
 have b3:=X0 3
 have b4:=X0 4
 have p0:=X1 0
 have p1:=X1 1
 have p2:=X1 2
 have p3:=X1 3
 have p4:=X1 4
 have p5:=X1 5
 have r0:=X2 0
 have r1:=X2 1
 have r2:=X2 2
 have r3:=X2 3
 have r4:=X2 4
 have r5:=X2 5
 have r6:=X2 6
 simp only [List.getElem?_toArray,List.getElem?_cons_succ,List.getElem?_cons_zero] at b0 b1 b2 b3 b4 p0 p1 p2 p3 p4 p5 r0 r1 r2 r3 r4 r5 r6
 clear X0 X1 X2
 clear hb1
 go_wp2
 refine bodyPost_ret (v:=.agg #[.int .i64 1,.int .i64 0,.int .i64 0,.slice none 0 0,.slice none 0 0,.slice none 0 0,.int .i64 0]) (by simp [results,Tryz.results8,go_sem,r0,r1,r2,r3,r4,r5,r6]) rfl (doS_zero (by unfold goB;rw [HV.out];rfl) (by unfold didC;rw [if_neg (by rw [HV.out];decide)]) (by repeat (first|with_reducible exact HBW.out|with_reducible refine Below.setCell ?_ (by first|omega|(simp;omega)) _|with_reducible refine Below.alloc ?_ (by first|omega|(simp;omega)) _|with_reducible refine Below.drew ?_)))
theorem specDo_miss (B:Bk) (v:Wr) (a1 a2 a3:Option Addr) (c1 c2 c3:Nat) (w:World) (hf:BkFit B) (hc:BkIn w 0 w.1.size B a1 a2 a3) (wf:WrFit v) (hv:allTo (chk B) 7=true) (hw:wrB v=false) :
  Calls Tryz.prog 8 #[.agg #[.int .i64 B.now,.int .i64 B.floor,.slice a1 B.on c1,.slice a2 B.hn c2,.slice a3 B.tn c3],.agg #[.int .i64 v.op,.string v.kind,.string v.name,.int .i64 v.seen,.string v.text,.string v.hold]] w fun e w'=>DoS B v w e w':=by
 have B3:∀ o1 o2 o3,Below w.1.size w (((w.alloc o1).alloc o2).alloc o3):=fun o1 o2 o3=>(((Below.refl _ _).alloc (Nat.le_refl _) _).alloc (by simp) _).alloc (by simp;omega) _
 have HB3:=hid B3
 have HF:=hid hf
 have HBK:=hid hc
 have HWF:=hid wf
 clear B3 hf hc wf
 have HV:=hid hv
 have HW:=hid hw
 clear hv hw
 go_enter Tryz.func8,Tryz.ntmps8
 go_wp2_with fail
 refine (specValid_any B a1 a2 a3 c1 c2 c3 _ 0 w.1.size (by simp;omega) HF.out (HBK.out.below (HB3.out _ _ _) (Nat.le_refl _))).mono ?_
 rintro e w1 ⟨rfl,hb1⟩
 rw [HV.out]
 have z1:w.1.size+1+1<w1.1.size:=by have:=hb1.size;simp at this;omega
 have HB1:=hid hb1
 have HBW:=hid ((HB3.out _ _ _).trans (hb1.mono (by simp;omega)))
 obtain ⟨X0,X1,X2,Y1,Y2⟩:=three_cell hb1
 have b0:=X0 0
 have b1:=X0 1
 have b2:=X0 2
 have b3:=X0 3
 have b4:=X0 4
 have p0:=X1 0
 have p1:=X1 1
 have p2:=X1 2
 have p3:=X1 3
 have p4:=X1 4
 have p5:=X1 5
 have r0:=X2 0
 have r1:=X2 1
 have r2:=X2 2
 have r3:=X2 3
 have r4:=X2 4
 have r5:=X2 5
 have r6:=X2 6
 simp only [List.getElem?_toArray,List.getElem?_cons_succ,List.getElem?_cons_zero] at b0 b1 b2 b3 b4 p0 p1 p2 p3 p4 p5 r0 r1 r2 r3 r4 r5 r6
 clear X0 X1 X2
 clear hb1
 go_wp2_with fail
 refine (l2Do_bad B v a1 a2 a3 c1 c2 c3 w1 HW.out HWF.out).mono ?_
 rintro e w2 ⟨rfl,hb2⟩
 have hb3:=HB1.out.trans (hb2.mono HB1.out.size)
 have z2:w.1.size+1+1<w2.1.size:=by have:=hb2.size;omega
 have HBW2:=hid (HBW.out.trans (hb2.mono HBW.out.size))
 clear b0 b1 b2 b3 b4 p0 p1 p2 p3 p4 p5 r0 r1 r2 r3 r4 r5 r6 Y1 Y2
 obtain ⟨X0,X1,X2,Y1,Y2⟩:=three_cell hb3
 have b0:=X0 0
 have b1:=X0 1
 have b2:=X0 2
 have b3:=X0 3
 have b4:=X0 4
 have p0:=X1 0
 have p1:=X1 1
 have p2:=X1 2
 have p3:=X1 3
 have p4:=X1 4
 have p5:=X1 5
 have r0:=X2 0
 have r1:=X2 1
 have r2:=X2 2
 have r3:=X2 3
 have r4:=X2 4
 have r5:=X2 5
 have r6:=X2 6
 simp only [List.getElem?_toArray,List.getElem?_cons_succ,List.getElem?_cons_zero] at b0 b1 b2 b3 b4 p0 p1 p2 p3 p4 p5 r0 r1 r2 r3 r4 r5 r6
 clear X0 X1 X2
 clear hb3 hb2 z1 HBW
 have zA1:w.1.size<w2.1.size:=by omega
 have zA2:w.1.size<w2.1.size+1:=by omega
 have zA3:w.1.size<w2.1.size+1+1:=by omega
 have zA4:w.1.size<w2.1.size+1+1+1:=by omega
 have zB1:w.1.size+1<w2.1.size:=by omega
 have zB2:w.1.size+1<w2.1.size+1:=by omega
 have zB3:w.1.size+1<w2.1.size+1+1:=by omega
 have zB4:w.1.size+1<w2.1.size+1+1+1:=by omega
 have zC1:w.1.size+1+1<w2.1.size:=by omega
 have zC2:w.1.size+1+1<w2.1.size+1:=by omega
 have zC3:w.1.size+1+1<w2.1.size+1+1:=by omega
 have zC4:w.1.size+1+1<w2.1.size+1+1+1:=by omega
 have HBW:=HBW2
 clear HBW2
 go_wp2
 refine bodyPost_ret (v:=.agg #[.int .i64 2,.int .i64 0,.int .i64 0,.slice none 0 0,.slice none 0 0,.slice none 0 0,.int .i64 0]) (by simp [results,Tryz.results8,go_sem,r0,r1,r2,r3,r4,r5,r6,(show w.1.size+1+1<w2.1.size by omega),World.cell?_alloc_lt]) rfl (doS_zero (by unfold goB;rw [HV.out,HW.out];rfl) (by unfold didC;rw [if_pos HV.out,if_neg (by rw [HW.out];decide)]) (by repeat (first|with_reducible exact HBW.out|with_reducible refine Below.setCell ?_ (by first|omega|(simp;omega)) _|with_reducible refine Below.alloc ?_ (by first|omega|(simp;omega)) _|with_reducible refine Below.drew ?_)))
theorem specDo_go (B:Bk) (v:Wr) (a1 a2 a3:Option Addr) (c1 c2 c3:Nat) (w:World) (hf:BkFit B) (hc:BkIn w 0 w.1.size B a1 a2 a3) (wf:WrFit v) (hv:allTo (chk B) 7=true) (hw:wrB v=true) (htn:(B.tn:Int)≤1048576) :
  Calls Tryz.prog 8 #[.agg #[.int .i64 B.now,.int .i64 B.floor,.slice a1 B.on c1,.slice a2 B.hn c2,.slice a3 B.tn c3],.agg #[.int .i64 v.op,.string v.kind,.string v.name,.int .i64 v.seen,.string v.text,.string v.hold]] w fun e w'=>DoS B v w e w':=by
 have B3:∀ o1 o2 o3,Below w.1.size w (((w.alloc o1).alloc o2).alloc o3):=fun o1 o2 o3=>(((Below.refl _ _).alloc (Nat.le_refl _) _).alloc (by simp) _).alloc (by simp;omega) _
 have HB3:=hid B3
 have HF:=hid hf
 have HBK:=hid hc
 have HWF:=hid wf
 clear B3 hf hc wf
 have HV:=hid hv
 have HOK:=hid (wok_of HF.out hv hw HWF.out)
 have HD:=hid (did_fit HOK.out hv htn)
 have HDG:=hid (did_go hv hw)
 clear hv hw htn
 go_enter Tryz.func8,Tryz.ntmps8
 go_wp2_with fail
 refine (specValid_any B a1 a2 a3 c1 c2 c3 _ 0 w.1.size (by simp;omega) HF.out (HBK.out.below (HB3.out _ _ _) (Nat.le_refl _))).mono ?_
 rintro e w1 ⟨rfl,hb1⟩
 rw [HV.out]
 have z1:w.1.size+1+1<w1.1.size:=by have:=hb1.size;simp at this;omega
 have HB1:=hid hb1
 have HBW:=hid ((HB3.out _ _ _).trans (hb1.mono (by simp;omega)))
 obtain ⟨X0,X1,X2,Y1,Y2⟩:=three_cell hb1
 have b0:=X0 0
 have b1:=X0 1
 have b2:=X0 2
 have b3:=X0 3
 have b4:=X0 4
 have p0:=X1 0
 have p1:=X1 1
 have p2:=X1 2
 have p3:=X1 3
 have p4:=X1 4
 have p5:=X1 5
 have r0:=X2 0
 have r1:=X2 1
 have r2:=X2 2
 have r3:=X2 3
 have r4:=X2 4
 have r5:=X2 5
 have r6:=X2 6
 simp only [List.getElem?_toArray,List.getElem?_cons_succ,List.getElem?_cons_zero] at b0 b1 b2 b3 b4 p0 p1 p2 p3 p4 p5 r0 r1 r2 r3 r4 r5 r6
 clear X0 X1 X2
 clear hb1
 go_wp2_with fail
 refine (l2Do_any B v a1 a2 a3 c1 c2 c3 w1 HOK.out HV.out (HBK.out.frLo (FrP.of_below HBW.out) (Nat.le_refl _) HBW.out.size)).mono ?_
 rintro e w2 ⟨hb2,a1n,a2n,a3n,c1n,c2n,c3n,rfl,hin⟩
 have hb3:=HB1.out.trans (hb2.mono HB1.out.size)
 have z2:w.1.size+1+1<w2.1.size:=by have:=hb2.size;omega
 have HBW2:=hid (HBW.out.trans (hb2.mono HBW.out.size))
 clear b0 b1 b2 b3 b4 p0 p1 p2 p3 p4 p5 r0 r1 r2 r3 r4 r5 r6 Y1 Y2
 obtain ⟨X0,X1,X2,Y1,Y2⟩:=three_cell hb3
 have b0:=X0 0
 have b1:=X0 1
 have b2:=X0 2
 have b3:=X0 3
 have b4:=X0 4
 have p0:=X1 0
 have p1:=X1 1
 have p2:=X1 2
 have p3:=X1 3
 have p4:=X1 4
 have p5:=X1 5
 have r0:=X2 0
 have r1:=X2 1
 have r2:=X2 2
 have r3:=X2 3
 have r4:=X2 4
 have r5:=X2 5
 have r6:=X2 6
 simp only [List.getElem?_toArray,List.getElem?_cons_succ,List.getElem?_cons_zero] at b0 b1 b2 b3 b4 p0 p1 p2 p3 p4 p5 r0 r1 r2 r3 r4 r5 r6
 clear X0 X1 X2
 clear hb3 hb2 z1 HBW
 have zA1:w.1.size<w2.1.size:=by omega
 have zA2:w.1.size<w2.1.size+1:=by omega
 have zA3:w.1.size<w2.1.size+1+1:=by omega
 have zA4:w.1.size<w2.1.size+1+1+1:=by omega
 have zB1:w.1.size+1<w2.1.size:=by omega
 have zB2:w.1.size+1<w2.1.size+1:=by omega
 have zB3:w.1.size+1<w2.1.size+1+1:=by omega
 have zB4:w.1.size+1<w2.1.size+1+1+1:=by omega
 have zC1:w.1.size+1+1<w2.1.size:=by omega
 have zC2:w.1.size+1+1<w2.1.size+1:=by omega
 have zC3:w.1.size+1+1<w2.1.size+1+1:=by omega
 have zC4:w.1.size+1+1<w2.1.size+1+1+1:=by omega
 have HBW:=HBW2
 clear HBW2
 have HIN:=hid hin
 clear hin
 have hd2:(didC B v==2)=false:=by
  rw [HDG.out.1]
  simpa using code_not2 B v
 obtain ⟨dc,hdc⟩:∃ dc,didC B v=dc:=⟨_,rfl⟩
 obtain ⟨dv,hdv⟩:∃ dv,didV B v=dv:=⟨_,rfl⟩
 obtain ⟨X,hX⟩:∃ X,didB B v=X:=⟨_,rfl⟩
 rw [hdc] at hd2
 rw [hdc,hdv,hX]
 rw [hX] at HIN HD
 have HDC:=hid hdc
 have HDV:=hid hdv
 have HDX:=hid hX
 clear hdc hdv hX
 go_wp2_with fail
 refine (l1Copy_any X a1n a2n a3n c1n c2n c3n _ 0 w2.1.size (by simp) HD.out.2.1 HD.out.2.2.1 HD.out.2.2.2 HD.out.1 (HIN.out.below (below_alloc _ _) (Nat.le_refl _))).mono ?_
 rintro e w3 ⟨b1n,b2n,b3n,d1n,d2n,d3n,rfl,hin3,_,hb4⟩
 have hd:=RowF.new (w:=w2) (l:=[.int .i64 dc,.int .i64 X.now,.int .i64 X.floor,.slice a1n X.on c1n,.slice a2n X.hn c2n,.slice a3n X.tn c3n,.int .i64 dv]) (t:=37) hb4
 have hB4:Below w2.1.size w2 w3:=(below_alloc _ _).trans (hb4.mono (by simp))
 have z3:w2.1.size<w3.1.size:=by have:=hb4.size;simp at this;omega
 simp only [World.size_alloc] at hin3
 have HI3:=hid hin3
 have HBW3:=hid (HBW.out.trans (hB4.mono HBW.out.size))
 have y2:∀ i,w3.frozen? ⟨w.1.size+1+1,i,none⟩=false:=fun i=>(hB4.frozen (p:=⟨w.1.size+1+1,i,none⟩) zC1).trans (Y2 i)
 have s0:=(hB4.cell (p:=⟨w.1.size+1+1,0,none⟩) zC1).trans r0
 have s1:=(hB4.cell (p:=⟨w.1.size+1+1,1,none⟩) zC1).trans r1
 have s2:=(hB4.cell (p:=⟨w.1.size+1+1,2,none⟩) zC1).trans r2
 have s3:=(hB4.cell (p:=⟨w.1.size+1+1,3,none⟩) zC1).trans r3
 have s4:=(hB4.cell (p:=⟨w.1.size+1+1,4,none⟩) zC1).trans r4
 have s5:=(hB4.cell (p:=⟨w.1.size+1+1,5,none⟩) zC1).trans r5
 have s6:=(hB4.cell (p:=⟨w.1.size+1+1,6,none⟩) zC1).trans r6
 have d0:=hd.cell 0 (by simp)
 have d1:=hd.cell 1 (by simp)
 have d2:=hd.cell 2 (by simp)
 have d3:=hd.cell 3 (by simp)
 have d4:=hd.cell 4 (by simp)
 have d5:=hd.cell 5 (by simp)
 have d6:=hd.cell 6 (by simp)
 have df:=hd.free
 simp only [vec,List.getD_cons_zero,List.getD_cons_succ] at d0 d1 d2 d3 d4 d5 d6
 clear b0 b1 b2 b3 b4 p0 p1 p2 p3 p4 p5 r0 r1 r2 r3 r4 r5 r6 Y1 Y2
 clear hb4 hB4 hd hin3 HBW zA1 zA2 zA3 zA4 zB1 zB2 zB3 zB4 zC2 zC3 zC4
 have zz:w.1.size+1+1<w3.1.size:=by omega
 have HBW:=HBW3
 clear HBW3
 go_wp2
 refine bodyPost_ret (v:=.agg #[.int .i64 dc,.int .i64 X.now,.int .i64 X.floor,.slice b1n X.on d1n,.slice b2n X.hn d2n,.slice b3n X.tn d3n,.int .i64 dv]) (by simp [results,Tryz.results8,go_sem,s0,s1,s2,s3,s4,s5,s6]) rfl ⟨by repeat (first|with_reducible exact HBW.out|with_reducible refine Below.setCell ?_ (by first|omega|(simp;omega)) _|with_reducible refine Below.alloc ?_ (by first|omega|(simp;omega)) _|with_reducible refine Below.drew ?_),b1n,b2n,b3n,d1n,d2n,d3n,?_,?_⟩
 ·rw [HDC.out,HDV.out,HDX.out]
 ·rw [HDX.out]
  exact ((HI3.out.frLo (by repeat (first|with_reducible exact FrP.refl _ _|with_reducible refine FrP.setNew ?_ (by (show _≤_∨_<_);dsimp only;omega) _)) (Nat.le_refl _) (by simp)).dn (by omega))
end Go.Proofs.YtllmmkchokkaaaaGreatDoor
