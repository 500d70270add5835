import Derived.Test.YtllmmkchokkaaaaGreatDoorPk32
import Derived.Test.YtllmmkchokkaaaaGreatDoorPk33
set_option maxRecDepth 100000
set_option maxHeartbeats 8000000
namespace Go.Proofs.YtllmmkchokkaaaaGreatDoor
open Go.RowKit Go.Maps
def hisPV (K Xb:Nat) (ad:Option Addr) (n cap:Nat) (c:Ch) (adc:Option Addr) (capc:Nat) (i:Nat) (v:Value):Prop:=
 match i with
 | 0=>∃ b,v=.slice (some ⟨b,0,none⟩) 0 0
 | 1=>v=.pointer (some ⟨K,3,none⟩)
 | 2=>v=.slice ad n cap
 | 4=>v=.agg #[.int .i64 c.ver,.bool c.gone,.string c.ob.kind,.string c.ob.name,.int .i64 c.ob.ver,.int .i64 c.ob.born,.string c.ob.text,.bool c.ob.ending,.slice adc c.ob.hn capc]
 | 7=>v=.pointer (some ⟨Xb,3,none⟩)
 | _=>True
theorem hisReg13 (p0 p1 p3 p4 p6 p7 p8 p9 p11 p12 p13 p14 p15 p16 p17 p18 p19 p20 p21 p22 p23 p24 p25 p26 p27 p28 p29 p30 p31 p32 p33 p34 p35 p36 p37 p38 p39 p40 p41 p42 p43 p44 p45 p46 p47 p48 p49 p50 p59 p60 p61 p62 p63 p64 p65 p66 p67 p68 p69 p70 p71 p72 p73 p74 p75 p76:Value) (t0:Nat→Value) (K Cb Xb:Nat) (ad:Option Addr) (n cap:Nat) (c:Ch) (adc:Option Addr) (capc:Nat) (cc:Nat→Value) (lo hi:Nat) (W:World) (hn:n≤200) (hhi:hi≤W.1.size) (hs:SrcRow W lo hi ad (n*9) cc) (hKz:K<W.1.size) (h3:W.cell? ⟨K,3,none⟩=some (.slice ad n cap)) (hch:RowF W Cb 9 (vec [.int .i64 c.ver,.bool c.gone,.string c.ob.kind,.string c.ob.name,.int .i64 c.ob.ver,.int .i64 c.ob.born,.string c.ob.text,.bool c.ob.ending,.slice adc c.ob.hn capc])) (hX:Xb<W.1.size) (u3:Value) (hx3:W.cell? ⟨Xb,3,none⟩=some u3) (hf:W.frozen? ⟨Xb,3,none⟩=false) (Q:Exit→Act→World→Prop)
  (hQ:∀ (t:Nat→Value) (v3:Value) X,RwV W (n+1) 9 (catF cc (n*9) (vec [.int .i64 c.ver,.bool c.gone,.string c.ob.kind,.string c.ob.name,.int .i64 c.ob.ver,.int .i64 c.ob.born,.string c.ob.text,.bool c.ob.ending,.slice adc c.ob.hn capc])) v3 X∧Below W.1.size W X→Q .normal ⟨#[p0,p1,.pointer (some ⟨K,0,none⟩),p3,p4,.pointer (some ⟨Cb,0,none⟩),p6,p7,p8,p9,.pointer (some ⟨Xb,0,none⟩),p11,p12,p13,p14,p15,p16,p17,p18,p19,p20,p21,p22,p23,p24,p25,p26,p27,p28,p29,p30,p31,p32,p33,p34,p35,p36,p37,p38,p39,p40,p41,p42,p43,p44,p45,p46,p47,p48,p49,p50,t 0,t 1,t 2,t 3,t 4,t 5,t 6,t 7,p59,p60,p61,p62,p63,p64,p65,p66,p67,p68,p69,p70,p71,p72,p73,p74,p75,p76],[]⟩ (X.setCell ⟨Xb,3,none⟩ v3)) :
  Code.wp Tryz.prog (Code.region 13 #[⟨some 51,.buildSlice 32 0 #[],32, "l2_book_write.go:124",#[],none⟩,⟨some 52,.fieldAddr 35 (.tmp 2) 3,0, "l2_book_write.go:124",#[],none⟩,⟨some 53,.load 32 (.tmp 52),32, "l2_book_write.go:124",#[⟨1,.data⟩],none⟩,⟨some 54,.call ⟨.builtin .append,#[.tmp 51,.tmp 53],#[32,32]⟩,32, "l2_book_write.go:124",#[⟨0,.data⟩,⟨2,.data⟩],none⟩,⟨some 55,.load 120 (.tmp 5),120, "l2_book_write.go:124",#[],none⟩,⟨some 56,.buildSlice 32 1 #[(0,.tmp 55)],32, "l2_book_write.go:124",#[⟨4,.data⟩],none⟩,⟨some 57,.call ⟨.builtin .append,#[.tmp 54,.tmp 56],#[32,32]⟩,32, "l2_book_write.go:124",#[⟨3,.data⟩,⟨5,.data⟩,⟨3,.chain⟩],none⟩,⟨some 58,.fieldAddr 35 (.tmp 10) 3,0, "l2_book_write.go:124",#[⟨0,.phase⟩,⟨1,.phase⟩,⟨2,.phase⟩,⟨3,.phase⟩,⟨4,.phase⟩,⟨5,.phase⟩,⟨6,.phase⟩],none⟩,⟨none,.store 32 (.tmp 58) (.tmp 57),0, "l2_book_write.go:124",#[⟨7,.data⟩,⟨6,.data⟩,⟨6,.chain⟩,⟨0,.phase⟩,⟨1,.phase⟩,⟨2,.phase⟩,⟨3,.phase⟩,⟨4,.phase⟩,⟨5,.phase⟩,⟨6,.phase⟩],none⟩] true) Q ⟨#[p0,p1,.pointer (some ⟨K,0,none⟩),p3,p4,.pointer (some ⟨Cb,0,none⟩),p6,p7,p8,p9,.pointer (some ⟨Xb,0,none⟩),p11,p12,p13,p14,p15,p16,p17,p18,p19,p20,p21,p22,p23,p24,p25,p26,p27,p28,p29,p30,p31,p32,p33,p34,p35,p36,p37,p38,p39,p40,p41,p42,p43,p44,p45,p46,p47,p48,p49,p50,t0 0,t0 1,t0 2,t0 3,t0 4,t0 5,t0 6,t0 7,p59,p60,p61,p62,p63,p64,p65,p66,p67,p68,p69,p70,p71,p72,p73,p74,p75,p76],[]⟩ W:=by
 refine regionA3 Zf 8 3 5 6 Zb (Wt rfl) (Wt rfl) (fun t:Nat→Value=>#[p0,p1,.pointer (some ⟨K,0,none⟩),p3,p4,.pointer (some ⟨Cb,0,none⟩),p6,p7,p8,p9,.pointer (some ⟨Xb,0,none⟩),p11,p12,p13,p14,p15,p16,p17,p18,p19,p20,p21,p22,p23,p24,p25,p26,p27,p28,p29,p30,p31,p32,p33,p34,p35,p36,p37,p38,p39,p40,p41,p42,p43,p44,p45,p46,p47,p48,p49,p50,t 0,t 1,t 2,t 3,t 4,t 5,t 6,t 7,p59,p60,p61,p62,p63,p64,p65,p66,p67,p68,p69,p70,p71,p72,p73,p74,p75,p76]) t0 (hisPV K Xb ad n cap c adc capc)
  (RwV W n 9 cc) (ElV W 9 (vec [.int .i64 c.ver,.bool c.gone,.string c.ob.kind,.string c.ob.name,.int .i64 c.ob.ver,.int .i64 c.ob.born,.string c.ob.text,.bool c.ob.ending,.slice adc c.ob.hn capc])) (RwV W (n+1) 9 (catF cc (n*9) (vec [.int .i64 c.ver,.bool c.gone,.string c.ob.kind,.string c.ob.name,.int .i64 c.ob.ver,.int .i64 c.ob.born,.string c.ob.text,.bool c.ob.ending,.slice adc c.ob.hn capc]))) (fun ac Y=>∃ (t:Nat→Value) (v3:Value) (X:World),ac=⟨#[p0,p1,.pointer (some ⟨K,0,none⟩),p3,p4,.pointer (some ⟨Cb,0,none⟩),p6,p7,p8,p9,.pointer (some ⟨Xb,0,none⟩),p11,p12,p13,p14,p15,p16,p17,p18,p19,p20,p21,p22,p23,p24,p25,p26,p27,p28,p29,p30,p31,p32,p33,p34,p35,p36,p37,p38,p39,p40,p41,p42,p43,p44,p45,p46,p47,p48,p49,p50,t 0,t 1,t 2,t 3,t 4,t 5,t 6,t 7,p59,p60,p61,p62,p63,p64,p65,p66,p67,p68,p69,p70,p71,p72,p73,p74,p75,p76],[]⟩∧Y=X.setCell ⟨Xb,3,none⟩ v3∧RwV W (n+1) 9 (catF cc (n*9) (vec [.int .i64 c.ver,.bool c.gone,.string c.ob.kind,.string c.ob.name,.int .i64 c.ob.ver,.int .i64 c.ob.born,.string c.ob.text,.bool c.ob.ending,.slice adc c.ob.hn capc])) v3 X∧Below W.1.size W X) Zf Zf Zf (fun _ _ _ h hb=>h.grow hb) (fun _ _ _ h hb=>h.grow hb) (fun _ _ _ h hb=>h.grow hb) (fun _ _ _ _ h hk=>h.lt hk) (fun _ _ _ h=>h.lt) rfl ?_ ?_ ?_ ?_ ?_ ?_
 ·intro i hi1 g3 g5 g6 t X KK hb hg hK
  rcases (show i=0∨i=1∨i=2∨i=4∨i=7 by omega) with rfl|rfl|rfl|rfl|rfl
  ·have h:=hK (.slice (some ⟨X.1.size,0,none⟩) 0 0) (X.alloc (.cells #[] 120)) ⟨_,rfl⟩ Zbu
   refine wpOp_of rfl rfl ?_
   clear hK hg
   go_simp
   simpa [updT] using h
  ·exact sg
  ·have ea:t 1=.pointer (some ⟨K,3,none⟩):=hg 1 (Wt rfl)
   have l0:=(hb.cell (p:=⟨K,3,none⟩) hKz).trans h3
   have zl:=Nat.lt_of_lt_of_le hKz hb.size
   exact sg
  ·have l0:=(hb.cell (p:=⟨Cb,0,none⟩) hch.lt).trans (hch.cell 0 Zb)
   have l1:=(hb.cell (p:=⟨Cb,1,none⟩) hch.lt).trans (hch.cell 1 Zb)
   have l2:=(hb.cell (p:=⟨Cb,2,none⟩) hch.lt).trans (hch.cell 2 Zb)
   have l3:=(hb.cell (p:=⟨Cb,3,none⟩) hch.lt).trans (hch.cell 3 Zb)
   have l4:=(hb.cell (p:=⟨Cb,4,none⟩) hch.lt).trans (hch.cell 4 Zb)
   have l5:=(hb.cell (p:=⟨Cb,5,none⟩) hch.lt).trans (hch.cell 5 Zb)
   have l6:=(hb.cell (p:=⟨Cb,6,none⟩) hch.lt).trans (hch.cell 6 Zb)
   have l7:=(hb.cell (p:=⟨Cb,7,none⟩) hch.lt).trans (hch.cell 7 Zb)
   have l8:=(hb.cell (p:=⟨Cb,8,none⟩) hch.lt).trans (hch.cell 8 Zb)
   simp only [vec,List.getD_cons_zero,List.getD_cons_succ] at l0 l1 l2 l3 l4 l5 l6 l7 l8
   have zl:=Nat.lt_of_lt_of_le hch.lt hb.size
   exact sg
  ·exact sg
 ·intro t X KK hb hg hK
  obtain ⟨b0,e0⟩:∃ b,t 0=.slice (some ⟨b,0,none⟩) 0 0:=hg 0 (Wt rfl)
  have e2:t 2=.slice ad n cap:=hg 2 (Wt rfl)
  obtain ⟨v,Y,hrun,hrw,hnew,hbY⟩:=rw_begin (P:=Tryz.prog) W X hb 32 32 120 9 112 (.agg #[.int .i64 0,.bool false,.string ByteArray.empty,.string ByteArray.empty,.int .i64 0,.int .i64 0,.string ByteArray.empty,.bool false,.slice none 0 0]) Tryz.underlying32 Tryz.info120 Za rfl lo hi b0 ad n cap cc (hs.belowR hb hhi) Za Za
  exact wpOp_append_runG rfl rfl (.tmp 51) (.tmp 53) 32 32 rfl (by exact e0) (by exact e2) hrun (hK v Y trivial hrw hnew hbY)
 ·intro t X KK hb hg hK
  have e4:t 4=.agg #[.int .i64 c.ver,.bool c.gone,.string c.ob.kind,.string c.ob.name,.int .i64 c.ob.ver,.int .i64 c.ob.born,.string c.ob.text,.bool c.ob.ending,.slice adc c.ob.hn capc]:=hg 4 (Wt rfl)
  have h:=hK (.slice (some ⟨X.1.size,0,none⟩) 1 1) (X.alloc (.cells #[.int .i64 c.ver,.bool c.gone,.string c.ob.kind,.string c.ob.name,.int .i64 c.ob.ver,.int .i64 c.ob.born,.string c.ob.text,.bool c.ob.ending,.slice adc c.ob.hn capc] 120)) trivial ⟨X.1.size,rfl,hb.size,Zd,⟨fun j hj=>by
   have hr:=RowF.new (w:=X) (l:=[.int .i64 c.ver,.bool c.gone,.string c.ob.kind,.string c.ob.name,.int .i64 c.ob.ver,.int .i64 c.ob.born,.string c.ob.text,.bool c.ob.ending,.slice adc c.ob.hn capc]) (t:=120) Zbv
   exact ⟨X.1.size,0,rfl,Nat.le_refl _,Nat.lt_succ_self _,by rw [Nat.zero_add];exact hr.cell j (by simpa using hj)⟩,fun j hj=>by
   rcases (show j=0∨j=1∨j=2∨j=3∨j=4∨j=5∨j=6∨j=7∨j=8 by omega) with rfl|rfl|rfl|rfl|rfl|rfl|rfl|rfl|rfl<;>rfl⟩⟩ (fun h m e=>by cases e;exact Nat.le_refl _) Zbu
  refine wpOp_of rfl rfl ?_
  clear hK hg
  simp only [e4]
  go_simp
  simpa [updT,e4] using h
 ·intro t X KK hb hg ra rb _ hK
  obtain ⟨b8,e8,_,_,s8⟩:=rb
  obtain ⟨v,Y,hrun,hrw,hbY⟩:=rw_more (P:=Tryz.prog) W X hb 32 32 120 9 112 (.agg #[.int .i64 0,.bool false,.string ByteArray.empty,.string ByteArray.empty,.int .i64 0,.int .i64 0,.string ByteArray.empty,.bool false,.slice none 0 0]) Tryz.underlying32 Tryz.info120 Za rfl n cc hs.one (t 3) ra b8 (b8+1) (some ⟨b8,0,none⟩) 1 1 (vec [.int .i64 c.ver,.bool c.gone,.string c.ob.kind,.string c.ob.name,.int .i64 c.ob.ver,.int .i64 c.ob.born,.string c.ob.text,.bool c.ob.ending,.slice adc c.ob.hn capc]) s8 (Or.inr Za) Za Za
  exact wpOp_append_runG rfl rfl (.tmp 54) (.tmp 56) 32 32 rfl rfl (by exact e8) hrun (hK v Y trivial hrw hbY)
 ·intro t X KK hb hg rd hK
  have e7:t 7=.pointer (some ⟨Xb,3,none⟩):=hg 7 Za
  have h:=hK ⟨#[p0,p1,.pointer (some ⟨K,0,none⟩),p3,p4,.pointer (some ⟨Cb,0,none⟩),p6,p7,p8,p9,.pointer (some ⟨Xb,0,none⟩),p11,p12,p13,p14,p15,p16,p17,p18,p19,p20,p21,p22,p23,p24,p25,p26,p27,p28,p29,p30,p31,p32,p33,p34,p35,p36,p37,p38,p39,p40,p41,p42,p43,p44,p45,p46,p47,p48,p49,p50,t 0,t 1,t 2,t 3,t 4,t 5,t 6,t 7,p59,p60,p61,p62,p63,p64,p65,p66,p67,p68,p69,p70,p71,p72,p73,p74,p75,p76],[]⟩ (X.setCell ⟨Xb,3,none⟩ (t 6)) ⟨t,t 6,X,rfl,rfl,rd,hb⟩
  have l0:=(hb.cell (p:=⟨Xb,3,none⟩) hX).trans hx3
  have lf:=(hb.frozen (p:=⟨Xb,3,none⟩) hX).trans hf
  have zl:=Nat.lt_of_lt_of_le hX hb.size
  obtain ⟨ad3,g3,cp3,e6,_,_⟩:=rd
  refine wpOp_of rfl rfl ?_
  clear hK hg
  rw [e6] at h
  simp only [e6,e7] at h ⊢
  go_simp
  simpa [e6,e7] using h
 ·rintro ac X ⟨t,v3,X0,rfl,rfl,h1,h2⟩
  exact hQ t v3 X0 ⟨h1,h2⟩
theorem ObjsIn.grow5 {w:World} {lo hi hi':Nat} {ad:Option Addr} {n:Nat} {x:Nat→Ob} (h:ObjsIn w lo hi ad n x) (hh:hi≤hi'):ObjsIn w lo hi' ad n x:=fun i hi2=>by
 obtain ⟨b,off,ah,ch,e1,e2,e3,e4,e5⟩:=h i hi2
 refine ⟨b,off,ah,ch,e1,e2,Za,e4,fun j hj=>?_⟩
 obtain ⟨b',off',g1,g2,g3,g4⟩:=e5 j hj
 exact ⟨b',off',g1,g2,Za,g4⟩
theorem l2Do_err (B:Bk) (v:Wr) (a1 a2 a3:Option Addr) (c1 c2 c3:Nat) (w:World) (hok:WOk B v) (hc:BkIn w 0 w.1.size B a1 a2 a3) (h0:¬wCode B v=0) (h4:¬wCode B v=4) :
  Calls Tryz.prog 35 #[.agg #[.int .i64 B.now,.int .i64 B.floor,.slice a1 B.on c1,.slice a2 B.hn c2,.slice a3 B.tn c3],.agg #[.int .i64 v.op,.string v.kind,.string v.name,.int .i64 v.seen,.string v.text,.string v.hold]] w fun e w'=>e=.returned (.agg #[.int .i64 (wCode B v),.int .i64 B.now,.int .i64 B.floor,.slice a1 B.on c1,.slice a2 B.hn c2,.slice a3 B.tn c3,.int .i64 0])∧Below w.1.size w w':=by
 have B3:∀ o1 o2 o3,Below w.1.size w (((w.alloc o1).alloc o2).alloc o3):=fun o1 o2 o3=>(((Below.refl _ _).alloc Zbt _).alloc Zd _).alloc Zc _
 have HB3:=hid B3
 clear B3
 have HWR:=hid hok.wr
 have HWF:=hid hok.wf
 have HOK:=hid hok
 have HC:=hid hc.o
 have HBK:=hid hc
 clear hok hc
 have H0:=hid h0
 have H4:=hid h4
 clear h0 h4
 go_enter Tryz.func35,Tryz.ntmps35
 go_wp2_with fail
 refine (writeOk_any v HWF.out _).mono ?_
 rintro e w1 ⟨rfl,hb1⟩
 rw [HWR.out]
 have z1:w.1.size+1+1<w1.1.size:=by have:=hb1.size;simp at this;omega
 have HB1:=hid hb1
 have HBW:=hid ((HB3.out _ _ _).trans (hb1.mono Zc))
 obtain ⟨X0,X1,X2,Y1,Y2⟩:=three_cell hb1
 have b0:=X0 0
 have b1:=X0 1
 have b2:=X0 2
 have b3:=X0 3
 have b4:=X0 4
 have p0:=X1 0
 have p1:=X1 1
 have p2:=X1 2
 have p3:=X1 3
 have p4:=X1 4
 have p5:=X1 5
 have r0:=X2 0
 have r1:=X2 1
 have r2:=X2 2
 have r3:=X2 3
 have r4:=X2 4
 have r5:=X2 5
 have r6:=X2 6
 simp only [List.getElem?_toArray,List.getElem?_cons_succ,List.getElem?_cons_zero] at b0 b1 b2 b3 b4 p0 p1 p2 p3 p4 p5 r0 r1 r2 r3 r4 r5 r6
 clear X0 X1 X2
 clear hb1
 go_wp2_with fail
 refine (chg_any B v a1 a2 a3 c1 c2 c3 w1 HOK.out (HC.out.below HBW.out Zbt |>.grow5 HBW.out.size)).mono ?_
 rintro e w2 ⟨hb2,hres⟩
 rcases hres with ⟨_,rfl⟩|⟨hz,_⟩
 rotate_left
 ·exact absurd hz H0.out
 have hb3:=HB1.out.trans (hb2.mono HB1.out.size)
 have z2:w.1.size+1+1<w2.1.size:=by have:=hb2.size;omega
 have HBW2:=hid (HBW.out.trans (hb2.mono HBW.out.size))
 clear b0 b1 b2 b3 b4 p0 p1 p2 p3 p4 p5 r0 r1 r2 r3 r4 r5 r6 Y1 Y2
 obtain ⟨X0,X1,X2,Y1,Y2⟩:=three_cell hb3
 have b0:=X0 0
 have b1:=X0 1
 have b2:=X0 2
 have b3:=X0 3
 have b4:=X0 4
 have p0:=X1 0
 have p1:=X1 1
 have p2:=X1 2
 have p3:=X1 3
 have p4:=X1 4
 have p5:=X1 5
 have r0:=X2 0
 have r1:=X2 1
 have r2:=X2 2
 have r3:=X2 3
 have r4:=X2 4
 have r5:=X2 5
 have r6:=X2 6
 simp only [List.getElem?_toArray,List.getElem?_cons_succ,List.getElem?_cons_zero] at b0 b1 b2 b3 b4 p0 p1 p2 p3 p4 p5 r0 r1 r2 r3 r4 r5 r6
 clear X0 X1 X2
 clear hb3 hb2 z1 HBW
 have zA1:w.1.size<w2.1.size:=Za
 have zA2:w.1.size<w2.1.size+1:=Za
 have zA3:w.1.size<w2.1.size+1+1:=Za
 have zA4:w.1.size<w2.1.size+1+1+1:=Za
 have zB1:w.1.size+1<w2.1.size:=Za
 have zB2:w.1.size+1<w2.1.size+1:=Za
 have zB3:w.1.size+1<w2.1.size+1+1:=Za
 have zB4:w.1.size+1<w2.1.size+1+1+1:=Za
 have zC1:w.1.size+1+1<w2.1.size:=Za
 have zC2:w.1.size+1+1<w2.1.size+1:=Za
 have zC3:w.1.size+1+1<w2.1.size+1+1:=Za
 have zC4:w.1.size+1+1<w2.1.size+1+1+1:=Za
 have HBW:=HBW2
 clear HBW2
 have H0b:(wCode B v != 0)=true:=by simpa using H0.out
 have H4b:(wCode B v==4)=false:=by simpa using H4.out
 obtain ⟨cc,hcc⟩:∃ cc,wCode B v=cc:=⟨_,rfl⟩
 have HCC:=hid hcc
 rw [hcc] at H0b H4b ⊢
 clear hcc
 go_wp2
 refine bodyPost_ret (v:=.agg #[.int .i64 cc,.int .i64 B.now,.int .i64 B.floor,.slice a1 B.on c1,.slice a2 B.hn c2,.slice a3 B.tn c3,.int .i64 0]) (by simp [results,Tryz.results35,go_sem,r0,r1,r2,r3,r4,r5,r6,(show w.1.size+1+1<w2.1.size by omega),(show w.1.size+1+1<w2.1.size+1 by omega),World.cell?_alloc_lt]) rfl ⟨by rw [HCC.out],by repeat (first|with_reducible exact HBW.out|with_reducible refine Below.setCell ?_ Zj _|with_reducible refine Below.alloc ?_ Zj _|with_reducible refine Below.drew ?_)⟩
theorem l2Do_4 (B:Bk) (v:Wr) (a1 a2 a3:Option Addr) (c1 c2 c3:Nat) (w:World) (hok:WOk B v) (hc:BkIn w 0 w.1.size B a1 a2 a3) (h4:wCode B v=4) :
  Calls Tryz.prog 35 #[.agg #[.int .i64 B.now,.int .i64 B.floor,.slice a1 B.on c1,.slice a2 B.hn c2,.slice a3 B.tn c3],.agg #[.int .i64 v.op,.string v.kind,.string v.name,.int .i64 v.seen,.string v.text,.string v.hold]] w fun e w'=>e=.returned (.agg #[.int .i64 4,.int .i64 B.now,.int .i64 B.floor,.slice a1 B.on c1,.slice a2 B.hn c2,.slice a3 B.tn c3,.int .i64 (wOf B v).ver])∧Below w.1.size w w':=by
 have B3:∀ o1 o2 o3,Below w.1.size w (((w.alloc o1).alloc o2).alloc o3):=fun o1 o2 o3=>(((Below.refl _ _).alloc Zbt _).alloc Zd _).alloc Zc _
 have HB3:=hid B3
 clear B3
 have HWR:=hid hok.wr
 have HWF:=hid hok.wf
 have HOK:=hid hok
 have HC:=hid hc.o
 have HBK:=hid hc
 clear hok hc
 have H4:=hid h4
 clear h4
 go_enter Tryz.func35,Tryz.ntmps35
 go_wp2_with fail
 refine (writeOk_any v HWF.out _).mono ?_
 rintro e w1 ⟨rfl,hb1⟩
 rw [HWR.out]
 have z1:w.1.size+1+1<w1.1.size:=by have:=hb1.size;simp at this;omega
 have HB1:=hid hb1
 have HBW:=hid ((HB3.out _ _ _).trans (hb1.mono Zc))
 obtain ⟨X0,X1,X2,Y1,Y2⟩:=three_cell hb1
 have b0:=X0 0
 have b1:=X0 1
 have b2:=X0 2
 have b3:=X0 3
 have b4:=X0 4
 have p0:=X1 0
 have p1:=X1 1
 have p2:=X1 2
 have p3:=X1 3
 have p4:=X1 4
 have p5:=X1 5
 have r0:=X2 0
 have r1:=X2 1
 have r2:=X2 2
 have r3:=X2 3
 have r4:=X2 4
 have r5:=X2 5
 have r6:=X2 6
 simp only [List.getElem?_toArray,List.getElem?_cons_succ,List.getElem?_cons_zero] at b0 b1 b2 b3 b4 p0 p1 p2 p3 p4 p5 r0 r1 r2 r3 r4 r5 r6
 clear X0 X1 X2
 clear hb1
 go_wp2_with fail
 refine (chg_any B v a1 a2 a3 c1 c2 c3 w1 HOK.out (HC.out.below HBW.out Zbt |>.grow5 HBW.out.size)).mono ?_
 rintro e w2 ⟨hb2,hres⟩
 rcases hres with ⟨_,rfl⟩|⟨hz,_⟩
 rotate_left
 ·exact absurd hz (by rw [H4.out];decide)
 have hb3:=HB1.out.trans (hb2.mono HB1.out.size)
 have z2:w.1.size+1+1<w2.1.size:=by have:=hb2.size;omega
 have HBW2:=hid (HBW.out.trans (hb2.mono HBW.out.size))
 clear b0 b1 b2 b3 b4 p0 p1 p2 p3 p4 p5 r0 r1 r2 r3 r4 r5 r6 Y1 Y2
 obtain ⟨X0,X1,X2,Y1,Y2⟩:=three_cell hb3
 have b0:=X0 0
 have b1:=X0 1
 have b2:=X0 2
 have b3:=X0 3
 have b4:=X0 4
 have p0:=X1 0
 have p1:=X1 1
 have p2:=X1 2
 have p3:=X1 3
 have p4:=X1 4
 have p5:=X1 5
 have r0:=X2 0
 have r1:=X2 1
 have r2:=X2 2
 have r3:=X2 3
 have r4:=X2 4
 have r5:=X2 5
 have r6:=X2 6
 simp only [List.getElem?_toArray,List.getElem?_cons_succ,List.getElem?_cons_zero] at b0 b1 b2 b3 b4 p0 p1 p2 p3 p4 p5 r0 r1 r2 r3 r4 r5 r6
 clear X0 X1 X2
 clear hb3 hb2 z1 HBW
 have zA1:w.1.size<w2.1.size:=Za
 have zA2:w.1.size<w2.1.size+1:=Za
 have zA3:w.1.size<w2.1.size+1+1:=Za
 have zA4:w.1.size<w2.1.size+1+1+1:=Za
 have zB1:w.1.size+1<w2.1.size:=Za
 have zB2:w.1.size+1<w2.1.size+1:=Za
 have zB3:w.1.size+1<w2.1.size+1+1:=Za
 have zB4:w.1.size+1<w2.1.size+1+1+1:=Za
 have zC1:w.1.size+1+1<w2.1.size:=Za
 have zC2:w.1.size+1+1<w2.1.size+1:=Za
 have zC3:w.1.size+1+1<w2.1.size+1+1:=Za
 have zC4:w.1.size+1+1<w2.1.size+1+1+1:=Za
 have HBW:=HBW2
 clear HBW2
 rw [H4.out]
 have hon:(B.on:Int)≤100:=by have:=HOK.out.on;omega
 have HON:=hid hon
 go_wp2_with fail
 refine (specFind_any B.now B.floor B.on B.os a1 a2 a3 c1 B.hn c2 B.tn c3 v.kind v.name _ 0 w.1.size Zj Zax HOK.out.fit.os (HC.out.below (by repeat (first|with_reducible exact HBW.out|with_reducible refine Below.setCell ?_ Zj _|with_reducible refine Below.alloc ?_ Zj _|with_reducible refine Below.drew ?_)) Zbt)).mono ?_
 rintro e w3 ⟨A,C,rfl,_,_,hb4⟩
 have hB4:Below w2.1.size w2 w3:=((below_alloc _ _).alloc Zd _).trans (hb4.mono Zc)
 have hd:=RowF.new (w:=w2.alloc (.cells #[.int .i64 0,.bool false,.string ⟨#[]⟩,.string ⟨#[]⟩,.int .i64 0,.int .i64 0,.string ⟨#[]⟩,.bool false,.slice none 0 0] 120)) (l:=[.int .i64 4,.int .i64 B.now,.int .i64 B.floor,.slice a1 B.on c1,.slice a2 B.hn c2,.slice a3 B.tn c3,.int .i64 0]) (t:=37) hb4
 rw [World.size_alloc] at hd
 have z3:w2.1.size+1<w3.1.size:=by have:=hb4.size;simp at this;omega
 have HBW3:=hid (HBW.out.trans (hB4.mono HBW.out.size))
 have y2:∀ i,w3.frozen? ⟨w.1.size+1+1,i,none⟩=false:=fun i=>(hB4.frozen (p:=⟨w.1.size+1+1,i,none⟩) zC1).trans (Y2 i)
 have s0:=(hB4.cell (p:=⟨w.1.size+1+1,0,none⟩) zC1).trans r0
 have s1:=(hB4.cell (p:=⟨w.1.size+1+1,1,none⟩) zC1).trans r1
 have s2:=(hB4.cell (p:=⟨w.1.size+1+1,2,none⟩) zC1).trans r2
 have s3:=(hB4.cell (p:=⟨w.1.size+1+1,3,none⟩) zC1).trans r3
 have s4:=(hB4.cell (p:=⟨w.1.size+1+1,4,none⟩) zC1).trans r4
 have s5:=(hB4.cell (p:=⟨w.1.size+1+1,5,none⟩) zC1).trans r5
 have s6:=(hB4.cell (p:=⟨w.1.size+1+1,6,none⟩) zC1).trans r6
 have d0:=hd.cell 0 Zd
 have d1:=hd.cell 1 Zd
 have d2:=hd.cell 2 Zd
 have d3:=hd.cell 3 Zd
 have d4:=hd.cell 4 Zd
 have d5:=hd.cell 5 Zd
 have d6:=hd.cell 6 Zd
 have df:=hd.free
 simp only [vec,List.getD_cons_zero,List.getD_cons_succ] at d0 d1 d2 d3 d4 d5 d6
 clear b0 b1 b2 b3 b4 p0 p1 p2 p3 p4 p5 r0 r1 r2 r3 r4 r5 r6 Y1 Y2
 clear hb4 hB4 hd HBW zA1 zA2 zA3 zA4 zB1 zB2 zB3 zB4 zC2 zC3 zC4
 have zz:w.1.size+1+1<w3.1.size:=Za
 have zz2:w.1.size+1+1<w3.1.size+1:=Za
 have zy:w2.1.size+1<w3.1.size+1:=Za
 have HBW:=HBW3
 clear HBW3
 go_wp2
 refine bodyPost_ret (v:=.agg #[.int .i64 4,.int .i64 B.now,.int .i64 B.floor,.slice a1 B.on c1,.slice a2 B.hn c2,.slice a3 B.tn c3,.int .i64 (fndOb B.os v.kind v.name B.on).ver]) (by simp [results,Tryz.results35,go_sem,s0,s1,s2,s3,s4,s5,s6,zz,World.cell?_alloc_lt]) rfl ⟨rfl,by repeat (first|with_reducible exact HBW.out|with_reducible refine Below.setCell ?_ Zj _|with_reducible refine Below.alloc ?_ Zj _|with_reducible refine Below.drew ?_)⟩
theorem strs_last {X Y:World} {hi r xb:Nat} {A:Option Addr} {n:Nat} {s:Nat→ByteArray} (h:StrsIn X 0 hi A n s) (hr:∀ j t,¬X.cell? ⟨r,j,none⟩=some (.string t)) (hf:FrP (fun q=>q=r∨q=xb) X Y) (hx:hi≤xb) (hz:hi≤X.1.size):StrsIn Y 0 Y.1.size A n s:=fun i hi'=>by
 obtain ⟨b,off,e1,_,e3,e4⟩:=h i hi'
 refine ⟨b,off,e1,Nat.zero_le _,Nat.lt_of_lt_of_le (Nat.lt_of_lt_of_le e3 hz) hf.size,(hf.cell (p:=⟨b,off+i,none⟩) (Nat.lt_of_lt_of_le e3 hz) ?_).trans e4⟩
 rintro (e|e)
 ·have e':b=r:=e
  rw [e'] at e4
  exact hr _ _ e4
 ·have e':b=xb:=e
  omega
theorem obs_last {X Y:World} {base hi r xb:Nat} {v:Value} {m:Nat} {y:Nat→Ob} {A:Nat→Option Addr} {C:Nat→Nat} (h:BdR X base 0 hi v m y A C) (hr:∀ j t,¬X.cell? ⟨r,j,none⟩=some (.string t)) (hf:FrP (fun q=>q=r∨q=xb) X Y) (hx:hi≤xb) (hz:hi≤X.1.size) (hb:xb<base) (hrb:r<base):∃ ad cap,v=.slice ad m cap∧ObjsIn Y 0 Y.1.size ad m y:=by
 obtain ⟨c,ho,hat⟩:=h.row
 rcases Nat.eq_zero_or_pos m with h0|h0
 ·obtain ⟨ad,cap,e⟩:=own_slice ho
  exact ⟨ad,cap,e,fun i hi'=>absurd hi' Za⟩
 ·obtain ⟨g,cap,e,hg,r0⟩:=own_shape ho h0
  have r1:=r0.fr hf (by rintro (e|e)<;>omega)
  refine ⟨_,cap,e,fun i hi'=>?_⟩
  obtain ⟨a0,a1,a2,a3,a4,a5,a6⟩:=hat i hi'
  refine ⟨g,0,A i,C i,rfl,Nat.zero_le _,r1.lt,?_,strs_last (h.hold i hi') hr hf hx hz⟩
  rw [Nat.zero_add]
  exact ⟨(r1.cell _ Za).trans (congrArg some a0),(r1.cell _ Za).trans (congrArg some a1),(r1.cell _ Za).trans (congrArg some a2),(r1.cell _ Za).trans (congrArg some a3),(r1.cell _ Za).trans (congrArg some a4),(r1.cell _ Za).trans (congrArg some a5),(r1.cell _ Za).trans (congrArg some a6)⟩
theorem his_last {_W X Y:World} {hi r xb n k:Nat} {cc:Nat→Value} {c:Ch} {adc:Option Addr} {capc:Nat} {x:Nat→Ch} {A:Nat→Option Addr} {C:Nat→Nat} {g cp:Nat} (hrw:Rw X (some ⟨g,0,none⟩) g (n+1) cp 9 (catF cc (n*9) (vec [.int .i64 c.ver,.bool c.gone,.string c.ob.kind,.string c.ob.name,.int .i64 c.ob.ver,.int .i64 c.ob.born,.string c.ob.text,.bool c.ob.ending,.slice adc c.ob.hn capc]))) (_hcp:0<cp) (hat:∀ i,i<n→atCh cc i (x i) (A i) (C i)) (hho:∀ i,i<n→StrsIn X 0 hi (A i) (x i).ob.hn (x i).ob.hs) (hhc:StrsIn X 0 hi adc c.ob.hn c.ob.hs)
  (hr:∀ j t,¬X.cell? ⟨r,j,none⟩=some (.string t)) (hf:FrP (fun q=>q=r∨q=xb) X Y) (hx:hi≤xb) (hz:hi≤X.1.size) (hg:¬g=r∧¬g=xb) (hk:k≤n):ChgsIn Y 0 Y.1.size (some ⟨g,k*9,none⟩) (n+1-k) (fun i=>if i+k<n then x (i+k) else c):=fun i hi'=>by
 have r1:RowF Y g ((n+1)*9) (catF cc (n*9) (vec [.int .i64 c.ver,.bool c.gone,.string c.ob.kind,.string c.ob.name,.int .i64 c.ob.ver,.int .i64 c.ob.born,.string c.ob.text,.bool c.ob.ending,.slice adc c.ob.hn capc])):=(hrw.rowF Za).2.fr hf (by rintro (e|e);exact hg.1 e;exact hg.2 e)
 by_cases h:i+k<n
 ·obtain ⟨a0,a1,a2,a3,a4,a5,a6,a7,a8⟩:=hat (i+k) h
  refine ⟨g,k*9,A (i+k),C (i+k),rfl,Nat.zero_le _,r1.lt,?_,by dsimp only;rw [if_pos h];exact strs_last (hho _ h) hr hf hx hz⟩
  dsimp only
  rw [if_pos h,show k*9+i*9=(i+k)*9 by omega]
  have q:∀ j,j<9→Y.cell? ⟨g,(i+k)*9+j,none⟩=some (cc ((i+k)*9+j)):=fun j hj=>(r1.cell _ Za).trans (by unfold catF;rw [if_pos Za])
  exact ⟨(q 0 Za).trans (congrArg some a0),(q 1 Za).trans (congrArg some a1),(q 2 Za).trans (congrArg some a2),(q 3 Za).trans (congrArg some a3),(q 4 Za).trans (congrArg some a4),(q 5 Za).trans (congrArg some a5),(q 6 Za).trans (congrArg some a6),(q 7 Za).trans (congrArg some a7),(q 8 Za).trans (congrArg some a8)⟩
 ·have e:i+k=n:=Za
  refine ⟨g,k*9,adc,capc,rfl,Nat.zero_le _,r1.lt,?_,by dsimp only;rw [if_neg h];exact strs_last hhc hr hf hx hz⟩
  dsimp only
  rw [if_neg h,show k*9+i*9=n*9 by omega]
  have q:∀ j,j<9→Y.cell? ⟨g,n*9+j,none⟩=some (vec [.int .i64 c.ver,.bool c.gone,.string c.ob.kind,.string c.ob.name,.int .i64 c.ob.ver,.int .i64 c.ob.born,.string c.ob.text,.bool c.ob.ending,.slice adc c.ob.hn capc] j):=fun j hj=>(r1.cell _ Za).trans (by unfold catF;rw [if_neg Za,Nat.add_sub_cancel_left])
  exact ⟨q 0 Za,q 1 Za,q 2 Za,q 3 Za,q 4 Za,q 5 Za,q 6 Za,q 7 Za,q 8 Za⟩
theorem tics_last {w X Y:World} {r xb:Nat} {ad:Option Addr} {n:Nat} {x:Nat→Ti} (h:TicsIn w 0 w.1.size ad n x) (hb:Below w.1.size w X) (hf:FrP (fun q=>q=r∨q=xb) X Y) (hr:w.1.size≤r) (hx:w.1.size≤xb):TicsIn Y 0 Y.1.size ad n x:=fun i hi=>by
 obtain ⟨b,off,e1,_,e3,e4⟩:=h i hi
 have e5:=e4.below hb e3
 have zX:=hb.size
 have q:∀ j,Y.cell? ⟨b,j,none⟩=X.cell? ⟨b,j,none⟩:=fun j=>hf.cell (p:=⟨b,j,none⟩) (show b<_ by omega) (by rintro (e|e)<;>(have e':b=_:=e;omega))
 exact ⟨b,off,e1,Nat.zero_le _,by have:=hf.size;omega,⟨(q _).trans e5.c0,(q _).trans e5.c1,(q _).trans e5.c2,(q _).trans e5.c3,(q _).trans e5.c4⟩⟩
def DoL (B:Bk) (v:Wr) (w:World) (e:Ending) (w':World):Prop:=
 Below w.1.size w w'∧∃ (a1 a2 a3:Option Addr) (c1 c2 c3:Nat),e=.returned (.agg #[.int .i64 0,.int .i64 (wBk B v).now,.int .i64 (wBk B v).floor,.slice a1 (wBk B v).on c1,.slice a2 (wBk B v).hn c2,.slice a3 (wBk B v).tn c3,.int .i64 (B.now+1)])∧BkIn w' 0 w'.1.size (wBk B v) a1 a2 a3
theorem StrsIn.up5 {w:World} {lo hi hi':Nat} {ad:Option Addr} {n:Nat} {s:Nat→ByteArray} (h:StrsIn w lo hi ad n s) (hh:hi≤hi'):StrsIn w lo hi' ad n s:=fun i h'=>by
 obtain ⟨b,off,e1,e2,e3,e4⟩:=h i h'
 exact ⟨b,off,e1,e2,Za,e4⟩
theorem hf_below {w X Y:World} {a b:Nat} (h:Below w.1.size w X) (hf:FrP (fun q=>q=a∨q=b) X Y) (ha:w.1.size≤a) (hb:w.1.size≤b):Below w.1.size w Y:=
 h.trans (hf.below (fun q hq e=>by rcases e with e|e<;>omega) h.size)
theorem l2Do_ok (B:Bk) (v:Wr) (a1 a2 a3:Option Addr) (c1 c2 c3:Nat) (w:World) (hok:WOk B v) (hc:BkIn w 0 w.1.size B a1 a2 a3) (h0:wCode B v=0) :
  Calls Tryz.prog 35 #[.agg #[.int .i64 B.now,.int .i64 B.floor,.slice a1 B.on c1,.slice a2 B.hn c2,.slice a3 B.tn c3],.agg #[.int .i64 v.op,.string v.kind,.string v.name,.int .i64 v.seen,.string v.text,.string v.hold]] w fun e w'=>DoL B v w e w':=by
 have B3:∀ o1 o2 o3,Below w.1.size w (((w.alloc o1).alloc o2).alloc o3):=fun o1 o2 o3=>(((Below.refl _ _).alloc Zbt _).alloc Zd _).alloc Zc _
 have HB3:=hid B3
 clear B3
 have HWR:=hid hok.wr
 have HWF:=hid hok.wf
 have HOK:=hid hok
 have HC:=hid hc.o
 have HBK:=hid hc
 clear hok hc
 have H0:=hid h0
 clear h0
 go_enter Tryz.func35,Tryz.ntmps35
 go_wp2_with fail
 refine (writeOk_any v HWF.out _).mono ?_
 rintro e w1 ⟨rfl,hb1⟩
 rw [HWR.out]
 have z1:w.1.size+1+1<w1.1.size:=by have:=hb1.size;simp at this;omega
 have HB1:=hid hb1
 have HBW:=hid ((HB3.out _ _ _).trans (hb1.mono Zc))
 obtain ⟨X0,X1,X2,Y1,Y2⟩:=three_cell hb1
 have b0:=X0 0
 have b1:=X0 1
 have b2:=X0 2
 have b3:=X0 3
 have b4:=X0 4
 have p0:=X1 0
 have p1:=X1 1
 have p2:=X1 2
 have p3:=X1 3
 have p4:=X1 4
 have p5:=X1 5
 have r0:=X2 0
 have r1:=X2 1
 have r2:=X2 2
 have r3:=X2 3
 have r4:=X2 4
 have r5:=X2 5
 have r6:=X2 6
 simp only [List.getElem?_toArray,List.getElem?_cons_succ,List.getElem?_cons_zero] at b0 b1 b2 b3 b4 p0 p1 p2 p3 p4 p5 r0 r1 r2 r3 r4 r5 r6
 clear X0 X1 X2
 clear hb1
 go_wp2_with fail
 refine (chg_any B v a1 a2 a3 c1 c2 c3 w1 HOK.out (HC.out.below HBW.out Zbt |>.grow5 HBW.out.size)).mono ?_
 rintro e w2 ⟨hb2,hres⟩
 rcases hres with ⟨hz,_⟩|⟨_,A,C,rfl,hsc⟩
 ·exact absurd H0.out hz
 have HSC:=hid hsc
 clear hsc
 have hb3:=HB1.out.trans (hb2.mono HB1.out.size)
 have z2:w.1.size+1+1<w2.1.size:=by have:=hb2.size;omega
 have HBW2:=hid (HBW.out.trans (hb2.mono HBW.out.size))
 clear b0 b1 b2 b3 b4 p0 p1 p2 p3 p4 p5 r0 r1 r2 r3 r4 r5 r6 Y1 Y2
 obtain ⟨X0,X1,X2,Y1,Y2⟩:=three_cell hb3
 have b0:=X0 0
 have b1:=X0 1
 have b2:=X0 2
 have b3:=X0 3
 have b4:=X0 4
 have p0:=X1 0
 have p1:=X1 1
 have p2:=X1 2
 have p3:=X1 3
 have p4:=X1 4
 have p5:=X1 5
 have r0:=X2 0
 have r1:=X2 1
 have r2:=X2 2
 have r3:=X2 3
 have r4:=X2 4
 have r5:=X2 5
 have r6:=X2 6
 simp only [List.getElem?_toArray,List.getElem?_cons_succ,List.getElem?_cons_zero] at b0 b1 b2 b3 b4 p0 p1 p2 p3 p4 p5 r0 r1 r2 r3 r4 r5 r6
 clear X0 X1 X2
 have HB13:=hid hb3
 clear hb3 hb2 z1 HBW
 have zA1:w.1.size<w2.1.size:=Za
 have zA2:w.1.size<w2.1.size+1:=Za
 have zA3:w.1.size<w2.1.size+1+1:=Za
 have zA4:w.1.size<w2.1.size+1+1+1:=Za
 have zB1:w.1.size+1<w2.1.size:=Za
 have zB2:w.1.size+1<w2.1.size+1:=Za
 have zB3:w.1.size+1<w2.1.size+1+1:=Za
 have zB4:w.1.size+1<w2.1.size+1+1+1:=Za
 have zC1:w.1.size+1+1<w2.1.size:=Za
 have zC2:w.1.size+1+1<w2.1.size+1:=Za
 have zC3:w.1.size+1+1<w2.1.size+1+1:=Za
 have zC4:w.1.size+1+1<w2.1.size+1+1+1:=Za
 have HBW:=HBW2
 clear HBW2
 have hon:(B.on:Int)≤100:=by have:=HOK.out.on;omega
 have HON:=hid hon
 clear hon
 obtain ⟨c,hcw⟩:∃ c,wCh B v=c:=⟨_,rfl⟩
 rw [hcw] at HSC ⊢
 have HCW:=hid hcw
 clear hcw
 go_wp2_with fail
 refine (l2Put_any B.on B.os a1 c1 c A C _ 0 w2.1.size Zc Zax ((HC.out.below (B:=w.1.size) (by repeat (first|with_reducible exact HBW.out|with_reducible refine Below.setCell ?_ Zj _|with_reducible refine Below.alloc ?_ Zj _|with_reducible refine Below.drew ?_)) Zbt).grow5 Za) (HSC.out.below (B:=w2.1.size) ((below_alloc _ _).alloc Zd _) Zbt)).mono ?_
 rintro e w3 ⟨u,A1,C1,rfl,hbd,hb4⟩
 obtain ⟨a1n,c1n,rfl⟩:∃ ad cap,u=.slice ad (putAll B.on B.os c.ob c.gone).m cap:=by
  obtain ⟨_,ho,_⟩:=hbd.row
  exact own_slice ho
 obtain ⟨m,hm⟩:∃ m,(putAll B.on B.os c.ob c.gone).m=m:=⟨_,rfl⟩
 rw [hm] at hbd ⊢
 have HM:=hid hm
 clear hm
 have hB2:Below w2.1.size w2 w3:=((below_alloc _ _).alloc Zd _).trans (hb4.mono Zc)
 have hcr:RowF w3 w2.1.size 9 (vec [.int .i64 c.ver,.bool c.gone,.string c.ob.kind,.string c.ob.name,.int .i64 c.ob.ver,.int .i64 c.ob.born,.string c.ob.text,.bool c.ob.ending,.slice A c.ob.hn C]):=RowF.new (w:=w2) (l:=[.int .i64 c.ver,.bool c.gone,.string c.ob.kind,.string c.ob.name,.int .i64 c.ob.ver,.int .i64 c.ob.born,.string c.ob.text,.bool c.ob.ending,.slice A c.ob.hn C]) (t:=120) ((below_alloc _ _).trans (hb4.mono Zd))
 have hxr:=RowF.new (w:=w2.alloc (.cells #[.int .i64 c.ver,.bool c.gone,.string c.ob.kind,.string c.ob.name,.int .i64 c.ob.ver,.int .i64 c.ob.born,.string c.ob.text,.bool c.ob.ending,.slice A c.ob.hn C] 120)) (l:=[.int .i64 c.ver,.int .i64 B.floor,.slice a1 B.on c1,.slice a2 B.hn c2,.slice a3 B.tn c3]) (t:=35) hb4
 rw [World.size_alloc] at hxr
 have HB2:=hid hB2
 have z3:w2.1.size+1<w3.1.size:=by have:=hb4.size;simp at this;omega
 simp only [World.size_alloc] at hbd
 have HBD:=hid hbd
 have HBW3:=hid (HBW.out.trans (hB2.mono HBW.out.size))
 have y2:∀ i,w3.frozen? ⟨w.1.size+1+1,i,none⟩=false:=fun i=>(hB2.frozen (p:=⟨w.1.size+1+1,i,none⟩) zC1).trans (Y2 i)
 have g3:=(hB2.cell (p:=⟨w.1.size,3,none⟩) zA1).trans b3
 have s0:=(hB2.cell (p:=⟨w.1.size+1+1,0,none⟩) zC1).trans r0
 have s1:=(hB2.cell (p:=⟨w.1.size+1+1,1,none⟩) zC1).trans r1
 have s2:=(hB2.cell (p:=⟨w.1.size+1+1,2,none⟩) zC1).trans r2
 have s3:=(hB2.cell (p:=⟨w.1.size+1+1,3,none⟩) zC1).trans r3
 have s4:=(hB2.cell (p:=⟨w.1.size+1+1,4,none⟩) zC1).trans r4
 have s5:=(hB2.cell (p:=⟨w.1.size+1+1,5,none⟩) zC1).trans r5
 have s6:=(hB2.cell (p:=⟨w.1.size+1+1,6,none⟩) zC1).trans r6
 have HSR:=hid (show ∀ j t,¬w3.cell? ⟨w.1.size+1+1,j,none⟩=some (.string t) from fun j t h=>by
  have h2:=(hB2.cell (p:=⟨w.1.size+1+1,j,none⟩) zC1).symm.trans h
  have h3:=(three_cell HB13.out).2.2.1 j
  rw [h2] at h3
  rcases (show j<7∨7≤j by omega) with h4|h4
  ·rcases (show j=0∨j=1∨j=2∨j=3∨j=4∨j=5∨j=6 by omega) with rfl|rfl|rfl|rfl|rfl|rfl|rfl<;>simp at h3
  ·rw [Array.getElem?_eq_none (by simpa using h4)] at h3
   cases h3)
 have x0:=hxr.cell 0 Zd
 have x1:=hxr.cell 1 Zd
 have x2:=hxr.cell 2 Zd
 have x3:=hxr.cell 3 Zd
 have x4:=hxr.cell 4 Zd
 have xf:=hxr.free
 have d0:=hcr.cell 0 Zb
 have d1:=hcr.cell 1 Zb
 have d2:=hcr.cell 2 Zb
 have d3:=hcr.cell 3 Zb
 have d4:=hcr.cell 4 Zb
 have d5:=hcr.cell 5 Zb
 have d6:=hcr.cell 6 Zb
 have d7:=hcr.cell 7 Zb
 have d8:=hcr.cell 8 Zb
 have df:=hcr.free
 simp only [vec,List.getD_cons_zero,List.getD_cons_succ] at d0 d1 d2 d3 d4 d5 d6 d7 d8 x0 x1 x2 x3 x4
 have HCR:=hid hcr
 have HXR:=hid hxr
 clear b0 b1 b2 b3 b4 p0 p1 p2 p3 p4 p5 r0 r1 r2 r3 r4 r5 r6 Y1 Y2
 clear hb4 hcr hxr hbd HBW HB3 HB1
 have HBW:=HBW3
 have zw:w.1.size<w3.1.size:=Za
 have zw2:w.1.size+1+1<w3.1.size:=Za
 have zw3:w2.1.size<w3.1.size:=Za
 clear HBW3 hB2
 go_wp2
 obtain ⟨W,hW⟩:∃ W,w3.setCell ⟨w2.1.size+1,2,none⟩ (.slice a1n m c1n)=W:=⟨_,rfl⟩
 rw [hW]
 have F4:FrP (fun q=>q=w2.1.size+1) w3 W:=by rw [←hW];exact FrP.setCell (P:=fun q=>q=w2.1.size+1) (p:=⟨w2.1.size+1,2,none⟩) (FrP.refl _ _) rfl _
 have hX4:RowF W (w2.1.size+1) 5 (vec [.int .i64 c.ver,.int .i64 B.floor,.slice a1n m c1n,.slice a2 B.hn c2,.slice a3 B.tn c3]):=by
  rw [←hW]
  exact ((show RowF w3 (w2.1.size+1) 5 (vec [.int .i64 c.ver,.int .i64 B.floor,.slice a1 B.on c1,.slice a2 B.hn c2,.slice a3 B.tn c3]) from HXR.out).set (o:=2) Zb _).congr (fun j hj=>by rcases (show j=0∨j=1∨j=2∨j=3∨j=4 by omega) with rfl|rfl|rfl|rfl|rfl<;>rfl)
 have hC4:RowF W w2.1.size 9 (vec [.int .i64 c.ver,.bool c.gone,.string c.ob.kind,.string c.ob.name,.int .i64 c.ob.ver,.int .i64 c.ob.born,.string c.ob.text,.bool c.ob.ending,.slice A c.ob.hn C]):=HCR.out.fr F4 Za
 have zW:w3.1.size≤W.1.size:=F4.size
 have hBW4:Below w.1.size w W:=by rw [←hW];exact HBW.out.setCell (by show w.1.size≤w2.1.size+1;omega) _
 have HSRW:=hid (show ∀ j,W.cell? ⟨w.1.size+1+1,j,none⟩=w3.cell? ⟨w.1.size+1+1,j,none⟩ from fun j=>F4.cell (p:=⟨w.1.size+1+1,j,none⟩) zw2 (by show ¬w.1.size+1+1=w2.1.size+1;omega))
 have HSRF:=hid (show ∀ j,W.frozen? ⟨w.1.size+1+1,j,none⟩=false from fun j=>(F4.frozen (p:=⟨w.1.size+1+1,j,none⟩) zw2 (by show ¬w.1.size+1+1=w2.1.size+1;omega)).trans (y2 j))
 have k3:=(F4.cell (p:=⟨w.1.size,3,none⟩) zw (by show ¬w.1.size=w2.1.size+1;omega)).trans g3
 obtain ⟨cc,A2,C2,hsrc,hatc,hstc⟩:=ChgsIn.src (HBK.out.h.below hBW4 Zbt)
 have HATC:=hid hatc
 have HSTC:=hid hstc
 have HF4:=hid F4
 have HX4:=hid hX4
 have HC4:=hid hC4
 have HBW4:=hid hBW4
 refine hisReg13 _ _ _ _ _ _ _ _ _ _ _ _ _ _ _ _ _ _ _ _ _ _ _ _ _ _ _ _ _ _ _ _ _ _ _ _ _ _ _ _ _ _ _ _ _ _ _ _ _ _ _ _ _ _ _ _ _ _ _ _ _ _ _ _ _ _ (fun _=>undef) w.1.size w2.1.size (w2.1.size+1) a2 B.hn c2 c A C cc 0 w.1.size W HOK.out.hn Za hsrc Za k3 hC4 Za _ (hX4.cell 3 Zb) (hX4.free 3) _ ?_
 rintro t v3 X ⟨hrw,hbX⟩
 obtain ⟨ad3,gh,cp3,rfl,hr3,hl3⟩:=hrw
 have hcp:0<cp3:=Nat.lt_of_lt_of_le Za hr3.le
 have had:=hr3.addr hcp
 subst had
 have hgh:=hl3 hcp
 have zX:=hbX.size
 have zgh:=(hr3.room hcp).lt
 have hle3:=hr3.le
 have HR3:=hid hr3
 have HBX:=hid hbX
 have hx5:=HX4.out.below hbX Za
 have hc5:=HC4.out.below hbX Za
 have e0:(B.hn=200)→X.cell? ⟨gh,0,none⟩=some (.int .i64 (B.hs 0).ver):=fun h=>by
  rw [hr3.cell 0 Za]
  unfold catF
  rw [if_pos Za]
  exact congrArg some (HATC.out 0 Za).1
 clear d0 d1 d2 d3 d4 d5 d6 d7 d8 df x0 x1 x2 x3 x4 xf
 have d0:=hc5.cell 0 Zb
 have d1:=hc5.cell 1 Zb
 have d2:=hc5.cell 2 Zb
 have d3:=hc5.cell 3 Zb
 have d4:=hc5.cell 4 Zb
 have d5:=hc5.cell 5 Zb
 have d6:=hc5.cell 6 Zb
 have d7:=hc5.cell 7 Zb
 have d8:=hc5.cell 8 Zb
 have x0:=hx5.cell 0 Zb
 have x1:=hx5.cell 1 Zb
 have x2:=hx5.cell 2 Zb
 have x3:=hx5.cell 3 Zb
 have x4:=hx5.cell 4 Zb
 have r0:=(HBX.out.cell (p:=⟨w.1.size+1+1,0,none⟩) Zo).trans ((HSRW.out 0).trans s0)
 have r1:=(HBX.out.cell (p:=⟨w.1.size+1+1,1,none⟩) Zo).trans ((HSRW.out 1).trans s1)
 have r2:=(HBX.out.cell (p:=⟨w.1.size+1+1,2,none⟩) Zo).trans ((HSRW.out 2).trans s2)
 have r3:=(HBX.out.cell (p:=⟨w.1.size+1+1,3,none⟩) Zo).trans ((HSRW.out 3).trans s3)
 have r4:=(HBX.out.cell (p:=⟨w.1.size+1+1,4,none⟩) Zo).trans ((HSRW.out 4).trans s4)
 have r5:=(HBX.out.cell (p:=⟨w.1.size+1+1,5,none⟩) Zo).trans ((HSRW.out 5).trans s5)
 have r6:=(HBX.out.cell (p:=⟨w.1.size+1+1,6,none⟩) Zo).trans ((HSRW.out 6).trans s6)
 simp only [vec,List.getD_cons_zero,List.getD_cons_succ] at d0 d1 d2 d3 d4 d5 d6 d7 d8 x0 x1 x2 x3 x4
 have df:=hc5.free
 have xf:=hx5.free
 have rf:∀ j,X.frozen? ⟨w.1.size+1+1,j,none⟩=false:=fun j=>(HBX.out.frozen (p:=⟨w.1.size+1+1,j,none⟩) Zo).trans (HSRF.out j)
 clear s0 s1 s2 s3 s4 s5 s6 y2 g3 k3 hsrc hatc hstc F4 hX4 hC4 hBW4 hr3 hl3 hbX hx5 hc5 hW zA1 zA2 zA3 zA4 zB1 zB2 zB3 zB4 zC2 zC3 zC4
 have zx1:w2.1.size<X.1.size:=Za
 have zx2:w2.1.size+1<X.1.size:=Za
 have zx3:w.1.size+1+1<X.1.size:=Za
 have HEND:=hid (show ∀ (Y:World) (k cpn nn:Nat) (fl:Int),FrP (fun q=>q=w.1.size+1+1∨q=w2.1.size+1) X Y→k=wCut B→nn=B.hn+1-k→fl=(wBk B v).floor→DoL B v w (.returned (.agg #[.int .i64 0,.int .i64 c.ver,.int .i64 fl,.slice a1n m c1n,.slice (some ⟨gh,k*9,none⟩) nn cpn,.slice a3 B.tn c3,.int .i64 c.ver])) Y from fun Y k cpn nn fl hf hk hnn hfl=>by
  subst hk
  subst hnn
  subst hfl
  have hf3:FrP (fun q=>q=w.1.size+1+1∨q=w2.1.size+1) w3 Y:=(HF4.out.mono (fun q e=>Or.inr e)).trans ((FrP.of_below HBX.out).trans hf)
  obtain ⟨ad,cap,e,ho⟩:=obs_last HBD.out HSR.out hf3 Za Za Za Za
  cases e
  have hSX:∀ j t,¬X.cell? ⟨w.1.size+1+1,j,none⟩=some (.string t):=fun j t h=>HSR.out j t (by rw [←HSRW.out j,←HBX.out.cell (p:=⟨w.1.size+1+1,j,none⟩) Zo];exact h)
  have hck:wCut B≤B.hn:=by unfold wCut;split<;>omega
  have hh:=his_last (_W:=W) (k:=wCut B) HR3.out hcp HATC.out (fun i hi=>((HSTC.out i hi).below HBX.out Za).up5 Za) (((HSC.out.below HB2.out Zbt).frP HF4.out Za (fun q hq e=>by omega)).below HBX.out Za) hSX hf Za Za ⟨Za,Za⟩ hck
  have ht:=tics_last HBK.out.t (HBW4.out.trans (HBX.out.mono HBW4.out.size)) hf Za Za
  have ew:=HCW.out
  subst ew
  have e1:(wBk B v).on=m:=HM.out
  have e2:(wBk B v).hn=B.hn+1-wCut B:=by show B.hn-wCut B+1=_;omega
  have e3:(wBk B v).hs=(fun i=>if i+wCut B<B.hn then B.hs (i+wCut B) else wCh B v):=by
   funext i
   show (if i<B.hn-wCut B then _ else _)=_
   by_cases h:i<B.hn-wCut B
   ·rw [if_pos h,if_pos Za]
   ·rw [if_neg h,if_neg Za]
  refine ⟨hf_below (HBW4.out.trans (HBX.out.mono HBW4.out.size)) hf Za Za,a1n,some ⟨gh,wCut B*9,none⟩,a3,c1n,cpn,c3,?_,?_,?_,ht⟩
  ·rw [e1,e2]
   rfl
  ·rw [e1]
   exact ho
  ·rw [e2,e3]
   exact hh)
 by_cases hn200:B.hn=200
 ·have e0':=e0 hn200
  have HN2:=hid hn200
  clear e0
  go_wp2
  refine bodyPost_ret (v:=.agg #[.int .i64 0,.int .i64 c.ver,.int .i64 (B.hs 0).ver,.slice a1n m c1n,.slice (some ⟨gh,9,none⟩) 200 (cp3-1),.slice a3 B.tn c3,.int .i64 c.ver]) (by simp [results,Tryz.results35,go_sem,r0,r1,r2,r3,r4,r5,r6]) rfl (HEND.out _ 1 (cp3-1) 200 _ (by repeat (first|with_reducible exact FrP.refl _ _|with_reducible refine FrP.setCell ?_ (by first|exact Or.inl rfl|exact Or.inr rfl) _)) (by unfold wCut;rw [if_pos HN2.out]) (by rw [HN2.out]) (by unfold wBk;dsimp only;rw [if_pos HN2.out]))
 ·have HN2:=hid hn200
  have hgt:(B.hn:Int)+1≤200:=by have:=HOK.out.hn;omega
  clear e0
  go_wp2
  refine bodyPost_ret (v:=.agg #[.int .i64 0,.int .i64 c.ver,.int .i64 B.floor,.slice a1n m c1n,.slice (some ⟨gh,0,none⟩) (B.hn+1) cp3,.slice a3 B.tn c3,.int .i64 c.ver]) (by simp [results,Tryz.results35,go_sem,r0,r1,r2,r3,r4,r5,r6]) rfl (HEND.out _ 0 cp3 (B.hn+1) _ (by repeat (first|with_reducible exact FrP.refl _ _|with_reducible refine FrP.setCell ?_ (by first|exact Or.inl rfl|exact Or.inr rfl) _)) (by unfold wCut;rw [if_neg HN2.out]) Za (by unfold wBk;dsimp only;rw [if_neg HN2.out]))
theorem upd_all {P:Ob→Prop} {f:Nat→Ob} {o:Ob} (h:∀ j,P (f j)) (ho:P o) (k:Nat):∀ j,P (updF f k o j):=fun j=>by
 unfold updF
 split
 ·exact ho
 ·exact h j
theorem putTo_all {P:Ob→Prop} {x:Nat→Ob} {o:Ob} {g:Bool} (ho:P o):∀ k,(∀ i,i<k→P (x i))→∀ j,P ((putTo x o g k).y j)
 | 0,_=>fun _=>ho
 | k+1,h=>by
  have ih:=putTo_all (g:=g) ho k (fun i hi=>h i Za)
  have hx:=h k Za
  show ∀ j,P ((putStep o (x k) (putTo x o g k)).y j)
  unfold putStep
  split
  ·split
   ·exact ih
   ·exact upd_all ih hx _
  ·split
   ·exact upd_all ih hx _
   ·split
    ·exact upd_all ih ho _
    ·exact upd_all (upd_all ih ho _) hx _
theorem putAll_all {P:Ob→Prop} {x:Nat→Ob} {o:Ob} {g:Bool} {n:Nat} (ho:P o) (h:∀ i,i<n→P (x i)):∀ j,P ((putAll n x o g).y j):=by
 unfold putAll putEnd
 split
 ·exact putTo_all ho n h
 ·exact upd_all (putTo_all ho n h) ho _
theorem putAll_le (n:Nat) (x:Nat→Ob) (o:Ob) (g:Bool):(putAll n x o g).m≤n+1:=by
 have h:=putTo_le x o g n
 unfold putAll putEnd
 split
 ·omega
 ·rename_i hd
  rw [if_neg hd] at h
  exact h
theorem wf_small {x:Int} (h0:0≤x) (h1:x≤1000001):(Lit.int .i64 x).wf=true:=by
 have a:IntKind.i64.min≤0:=Zb
 have b:(1000001:Int)≤IntKind.i64.max:=Zb
 simp only [Lit.wf,Bool.and_eq_true,decide_eq_true_eq]
 omega
theorem wOf_fit {B:Bk} {v:Wr} (hok:WOk B v):ObFit (wOf B v):=by
 unfold wOf fndOb
 cases h:fnd B.os v.kind v.name B.on with
 | none=>exact (show ObFit ob0 from ⟨Zb,Zb,Zb,Zb,fun i hi=>absurd hi (Nat.not_lt_zero _),wf_small Zb Zb⟩)
 | some i=>exact hok.fit.os i (fnd_lt h).1
theorem wOb_fit {B:Bk} {v:Wr} (hok:WOk B v):ObFit (wOb B v):=by
 have hf:=wOf_fit hok
 have hl:=(wOf_is hok).1
 have wf:=hok.wf
 have hv:(Lit.int .i64 (B.now+1)).wf=true:=wf_small (by have:=hok.now0;omega) (by have:=hok.now1;omega)
 unfold wOb opOb
 split
 ·exact ⟨wf.k,wf.n,wf.t,by dsimp only;split<;>decide,fun i _=>wf.h,hv⟩
 ·split
  ·exact ⟨hf.k,hf.n,wf.t,hf.h,hf.s,hv⟩
  ·split
   ·exact ⟨hf.k,hf.n,hf.t,hf.h,hf.s,hv⟩
   ·split
    ·refine ⟨hf.k,hf.n,hf.t,by dsimp only;omega,fun i hi=>?_,hv⟩
     dsimp only at hi ⊢
     unfold insS
     have hr:=(rkS_is (wOf B v).hs v.hold (wOf B v).hn).1
     split
     ·exact hf.s i Za
     ·split
      ·exact wf.h
      ·exact hf.s (i-1) Za
    ·refine ⟨hf.k,hf.n,hf.t,by dsimp only;omega,fun i hi=>?_,hv⟩
     dsimp only at hi ⊢
     unfold remS
     split
     ·exact hf.s i Za
     ·exact hf.s (i+1) Za
theorem wBk_fit {B:Bk} {v:Wr} (hok:WOk B v):BkFit (wBk B v)∧((wBk B v).on:Int)≤1048576∧((wBk B v).hn:Int)≤1048576:=by
 have h1:=putAll_le B.on B.os (wOb B v) (wGone B v)
 have h2:=hok.on
 have h3:=hok.hn
 have e1:(wBk B v).on≤101:=by show (putAll B.on B.os (wOb B v) (wGone B v)).m≤101;omega
 have e2:(wBk B v).hn≤201:=by show B.hn-wCut B+1≤201;omega
 refine ⟨⟨Za,Za,hok.fit.t,fun i _=>putAll_all (P:=ObFit) (wOb_fit hok) hok.fit.os i,fun i _=>?_,hok.fit.ts⟩,Za,Za⟩
 show ObFit (wHs B (wCh B v) i).ob
 unfold wHs
 split
 ·exact hok.fit.hs _ Za
 ·exact wOb_fit hok
theorem cell_frLo {w w':World} {lo b j:Nat} {u:Value} (h:w.cell? ⟨b,j,none⟩=some u) (hf:FrP (fun q=>q<lo) w w') (hl:lo≤b) (hz:b<w.1.size):w'.cell? ⟨b,j,none⟩=some u:=(hf.cell (p:=⟨b,j,none⟩) hz (by show ¬b<lo;omega)).trans h
theorem StrsIn.frLo {w w':World} {lo hi hi':Nat} {ad:Option Addr} {n:Nat} {s:Nat→ByteArray} (h:StrsIn w lo hi ad n s) (hf:FrP (fun q=>q<lo) w w') (hz:hi≤w.1.size) (hh:hi≤hi'):StrsIn w' lo hi' ad n s:=fun i h'=>by
 obtain ⟨b,off,e1,e2,e3,e4⟩:=h i h'
 exact ⟨b,off,e1,e2,Za,cell_frLo e4 hf e2 Za⟩
theorem BkIn.frLo {w w':World} {lo hi hi':Nat} {x:Bk} {a1 a2 a3:Option Addr} (h:BkIn w lo hi x a1 a2 a3) (hf:FrP (fun q=>q<lo) w w') (hz:hi≤w.1.size) (hh:hi≤hi'):BkIn w' lo hi' x a1 a2 a3:=
 ⟨fun i h'=>by
  obtain ⟨b,off,ah,ch,e1,e2,e3,e4,e5⟩:=h.o i h'
  have c:∀ {j u},w.cell? ⟨b,j,none⟩=some u→w'.cell? ⟨b,j,none⟩=some u:=fun q=>cell_frLo q hf e2 Za
  exact ⟨b,off,ah,ch,e1,e2,Za,⟨c e4.c0,c e4.c1,c e4.c2,c e4.c3,c e4.c4,c e4.c5,c e4.c6⟩,e5.frLo hf hz hh⟩,
  fun i h'=>by
  obtain ⟨b,off,ah,ch,e1,e2,e3,e4,e5⟩:=h.h i h'
  have c:∀ {j u},w.cell? ⟨b,j,none⟩=some u→w'.cell? ⟨b,j,none⟩=some u:=fun q=>cell_frLo q hf e2 Za
  exact ⟨b,off,ah,ch,e1,e2,Za,⟨c e4.c0,c e4.c1,c e4.c2,c e4.c3,c e4.c4,c e4.c5,c e4.c6,c e4.c7,c e4.c8⟩,e5.frLo hf hz hh⟩,
  fun i h'=>by
  obtain ⟨b,off,e1,e2,e3,e4⟩:=h.t i h'
  have c:∀ {j u},w.cell? ⟨b,j,none⟩=some u→w'.cell? ⟨b,j,none⟩=some u:=fun q=>cell_frLo q hf e2 Za
  exact ⟨b,off,e1,e2,Za,⟨c e4.c0,c e4.c1,c e4.c2,c e4.c3,c e4.c4⟩⟩⟩
end Go.Proofs.YtllmmkchokkaaaaGreatDoor
