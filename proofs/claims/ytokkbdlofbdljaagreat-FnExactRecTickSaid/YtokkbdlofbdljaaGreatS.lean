import Derived.Test.YtokkbdlofbdljaaGreatK
import Derived.Deep.MidRow
import Derived.Laws.Rows
namespace Go.Proofs.YtokkbdlofbdljaaGreat
open Go.RowKit
set_option maxRecDepth 100000
set_option maxHeartbeats 4000000
structure Rc where
 num:Int
 of:Int
 up:Bool
 sf:Dk
 dk:Dk
 hn:Nat
 hs:Nat→Ms
 wn:Nat
 ws:Nat→ByteArray
 ld:Bool
 tr:Bool
 bal:Int
 yn:Nat
 ys:Nat→Int
 bn:Nat
 bs:Nat→Sl
 an:Nat
 as_:Nat→Ak
 hd:Int
structure RcA where
 sa:Option Addr
 da:Option Addr
 ha:Option Addr
 wa:Option Addr
 ya:Option Addr
 ba:Option Addr
 aa:Option Addr
 sc:Nat
 dc:Nat
 hc:Nat
 wc:Nat
 yc:Nat
 bc:Nat
 ac:Nat
abbrev rcC (r:Rc) (A:RcA):Array Value:=#[.int .i64 r.num,.int .i64 r.of,.bool r.up,.int .i64 r.sf.pr,.int .i64 r.sf.kn,.slice A.sa r.sf.n A.sc,.int .i64 r.dk.pr,.int .i64 r.dk.kn,.slice A.da r.dk.n A.dc,.slice A.ha r.hn A.hc,.slice A.wa r.wn A.wc,.bool r.ld,.bool r.tr,.int .i64 r.bal,.slice A.ya r.yn A.yc,.slice A.ba r.bn A.bc,.slice A.aa r.an A.ac,.int .i64 r.hd]
abbrev rcV (r:Rc) (A:RcA):Value:=.agg #[.int .i64 r.num,.int .i64 r.of,.bool r.up,.int .i64 r.sf.pr,.int .i64 r.sf.kn,.slice A.sa r.sf.n A.sc,.int .i64 r.dk.pr,.int .i64 r.dk.kn,.slice A.da r.dk.n A.dc,.slice A.ha r.hn A.hc,.slice A.wa r.wn A.wc,.bool r.ld,.bool r.tr,.int .i64 r.bal,.slice A.ya r.yn A.yc,.slice A.ba r.bn A.bc,.slice A.aa r.an A.ac,.int .i64 r.hd]
structure ZR (r:Rc):Prop where
 sf:Uu r.sf
 dk:Uu r.dk
 hn:(r.hn:Int)≤8796093022208
 hs:∀ i,i<r.hn→Ji (r.hs i)
 wn:(r.wn:Int)≤8796093022208
 ws:∀ i,i<r.wn→((r.ws i).size:Int)≤140737488355328
 yn:(r.yn:Int)≤17592186044416
 bn:(r.bn:Int)≤8796093022208
 bs:∀ i,i<r.bn→Ju (r.bs i)
 an:(r.an:Int)≤8796093022208
 as_:∀ i,i<r.an→AkFit (r.as_ i)
structure RcIn (w:World) (lo hi:Nat) (r:Rc) (A:RcA):Prop where
 sf:SlsIn w lo hi A.sa r.sf.n r.sf.s
 dk:SlsIn w lo hi A.da r.dk.n r.dk.s
 hs:MssIn w lo hi A.ha r.hn r.hs
 ws:StrsIn w lo hi A.wa r.wn r.ws
 ys:IntsIn w lo hi A.ya r.yn r.ys
 bs:SlsIn w lo hi A.ba r.bn r.bs
 as_:AksIn w lo hi A.aa r.an r.as_
theorem RcIn.below {w w':World} {B lo hi:Nat} {r:Rc} {A:RcA} (h:RcIn w lo hi r A) (hb:Below B w w') (hB:hi≤B):RcIn w' lo hi r A:=
 ⟨h.sf.below hb hB,h.dk.below hb hB,h.hs.below hb hB,h.ws.below hb hB,h.ys.below hb hB,h.bs.below hb hB,h.as_.below hb hB⟩
def szRc (r:Rc):Nat:=szDk r.sf+szDk r.dk+Xa r.hn r.hs+YR r.wn r.ws+r.yn+YJ r.bn r.bs+Xb r.an r.as_
theorem Ze {W:World} {B:Nat} {v0 v1 v2 v3 v4 v5 v6 v7 v8 v9 v10 v11 v12 v13 v14 v15 v16 v17:Value} (h:Holds W B #[v0,v1,v2,v3,v4,v5,v6,v7,v8,v9,v10,v11,v12,v13,v14,v15,v16,v17]) :
  W.cell? ⟨B,0,none⟩=some v0∧W.cell? ⟨B,1,none⟩=some v1∧W.cell? ⟨B,2,none⟩=some v2∧W.cell? ⟨B,3,none⟩=some v3∧W.cell? ⟨B,4,none⟩=some v4∧W.cell? ⟨B,5,none⟩=some v5∧W.cell? ⟨B,6,none⟩=some v6∧W.cell? ⟨B,7,none⟩=some v7∧W.cell? ⟨B,8,none⟩=some v8∧W.cell? ⟨B,9,none⟩=some v9∧W.cell? ⟨B,10,none⟩=some v10∧W.cell? ⟨B,11,none⟩=some v11∧W.cell? ⟨B,12,none⟩=some v12∧W.cell? ⟨B,13,none⟩=some v13∧W.cell? ⟨B,14,none⟩=some v14∧W.cell? ⟨B,15,none⟩=some v15∧W.cell? ⟨B,16,none⟩=some v16∧W.cell? ⟨B,17,none⟩=some v17:=⟨h 0,h 1,h 2,h 3,h 4,h 5,h 6,h 7,h 8,h 9,h 10,h 11,h 12,h 13,h 14,h 15,h 16,h 17⟩
theorem Holds.set {W:World} {B i:Nat} {c:Array Value} (h:Holds W B c) (hi:i<c.size) (v:Value):Holds (W.setCell ⟨B,i,none⟩ v) B (c.set i v hi):=fun j=>by
 by_cases e:j=i
 ·subst e
  rw [World.cell?_setCell_same _ _ _ (h j |>.trans (Array.getElem?_eq_getElem hi)),Array.getElem?_set_self]
 ·rw [World.cell?_setCell_other _ _ _ _ (fun hh=>e (by cases hh;rfl)),h j,Array.getElem?_set_ne _ (fun hh=>e hh.symm)]
theorem szRc_any (r:Rc) (A:RcA) (left:Int) (w:World) (n0:0≤left) (m0:left≤1048576) (lo hi:Nat) (hhi:hi≤w.1.size) (hf:ZR r) (hc:RcIn w lo hi r A) :
  Calls Tryz.prog 6 #[rcV r A,.int .i64 left] w fun e w'=>e=.returned (.int .i64 (Yb left (szRc r)))∧Below w.1.size w w':=by
 have HF:=hid hf
 have HI:=hid hc
 obtain ⟨S,hS⟩:∃ S,szRc r=S:=⟨_,rfl⟩
 have HSZ:=hid (show S=szDk r.sf+szDk r.dk+Xa r.hn r.hs+YR r.wn r.ws+r.yn+YJ r.bn r.bs+Xb r.an r.as_ by rw [←hS];rfl)
 rw [hS]
 clear hf hc hS
 have hB0:=Zb w (.cells (rcC r A) 30)
 have H0:=Zt w (rcC r A) 30
 have hz0:w.1.size<(w.alloc (.cells (rcC r A) 30)).1.size:=by simp
 go_enter Tryz.func6,Tryz.ntmps6
 obtain ⟨l1,hl1⟩:∃ l,Yb left (szDk r.sf)=l:=⟨_,rfl⟩
 have c1:=szDk_any r.sf A.sa A.sc left (w.alloc (.cells (rcC r A) 30)) n0 m0 lo hi (ltr hhi hB0.size) HF.out.sf (HI.out.below hB0 hhi).sf
 rw [hl1] at c1
 have HL1:=hid hl1
 clear hl1
 go_wp2_with fail
 refine c1.mono ?_
 clear c1
 rintro e w1 ⟨rfl,hb1⟩
 have hB1:Below w.1.size w w1:=hB0.trans (hb1.mono hB0.size)
 have H1:Holds w1 w.1.size (rcC r A):=H0.below hb1 hz0
 have hz1:w.1.size<w1.1.size:=ltl hz0 hb1.size
 clear hb1 H0
 by_cases n1:l1<0
 ·have G:left<(szDk r.sf:Nat):=Yh (by rw [HL1.out];exact n1)
  clear H1
  go_wp2
  go_ret
  exact ⟨ZE (ZH (by have:=HSZ.out;omega)).symm,hB1⟩
 have G1:Hid ((((szDk r.sf:Nat):Int)≤left)∧l1=left-(szDk r.sf:Nat)):=by
  have g:=Yu (l:=left) (s:=szDk r.sf) (by rw [HL1.out];omega)
  rw [HL1.out] at g
  exact g
 have n1:0≤l1:=by omega
 have m1:l1≤1048576:=by have:=G1.out;omega
 obtain ⟨l2,hl2⟩:∃ l,Yb l1 (szDk r.dk)=l:=⟨_,rfl⟩
 have c2:=szDk_any r.dk A.da A.dc l1 w1 n1 m1 lo hi (ltr hhi hB1.size) HF.out.dk (HI.out.below hB1 hhi).dk
 rw [hl2] at c2
 have HL2:=hid hl2
 clear hl2
 obtain ⟨p0,p1,p2,p3,p4,p5,p6,p7,p8,p9,p10,p11,p12,p13,p14,p15,p16,p17⟩:=Ze H1
 go_wp2_with fail
 refine c2.mono ?_
 clear c2
 rintro e w2 ⟨rfl,hb2⟩
 clear p0 p1 p2 p3 p4 p5 p6 p7 p8 p9 p10 p11 p12 p13 p14 p15 p16 p17
 have hB2:Below w.1.size w w2:=hB1.trans (hb2.mono hB1.size)
 have H2:Holds w2 w.1.size (rcC r A):=H1.below hb2 hz1
 have hz2:w.1.size<w2.1.size:=ltl hz1 hb2.size
 clear hb2 H1
 by_cases n2:l2<0
 ·have G:l1<(szDk r.dk:Nat):=Yh (by rw [HL2.out];exact n2)
  clear H2
  go_wp2
  go_ret
  exact ⟨ZE (ZH (by have:=HSZ.out;have:=G1.out;omega)).symm,hB2⟩
 have G2:Hid ((((szDk r.dk:Nat):Int)≤l1)∧l2=l1-(szDk r.dk:Nat)):=by
  have g:=Yu (l:=l1) (s:=szDk r.dk) (by rw [HL2.out];omega)
  rw [HL2.out] at g
  exact g
 have n2:0≤l2:=by omega
 have m2:l2≤1048576:=by have:=G2.out;omega
 obtain ⟨l3,hl3⟩:∃ l,Yb l2 (Xa r.hn r.hs)=l:=⟨_,rfl⟩
 have c3:=szMss_any r.hn r.hs A.ha A.hc l2 w2 lo hi (ltr hhi hB2.size) HF.out.hn n2 m2 HF.out.hs (HI.out.below hB2 hhi).hs
 rw [hl3] at c3
 have HL3:=hid hl3
 clear hl3
 obtain ⟨p0,p1,p2,p3,p4,p5,p6,p7,p8,p9,p10,p11,p12,p13,p14,p15,p16,p17⟩:=Ze H2
 go_wp2_with fail
 refine c3.mono ?_
 clear c3
 rintro e w3 ⟨rfl,hb3⟩
 clear p0 p1 p2 p3 p4 p5 p6 p7 p8 p9 p10 p11 p12 p13 p14 p15 p16 p17
 have hB3:Below w.1.size w w3:=hB2.trans (hb3.mono hB2.size)
 have H3:Holds w3 w.1.size (rcC r A):=H2.below hb3 hz2
 have hz3:w.1.size<w3.1.size:=ltl hz2 hb3.size
 clear hb3 H2
 by_cases n3:l3<0
 ·have G:l2<(Xa r.hn r.hs:Nat):=Yh (by rw [HL3.out];exact n3)
  clear H3
  go_wp2
  go_ret
  exact ⟨ZE (ZH (by have:=HSZ.out;have:=G1.out;have:=G2.out;omega)).symm,hB3⟩
 have G3:Hid ((((Xa r.hn r.hs:Nat):Int)≤l2)∧l3=l2-(Xa r.hn r.hs:Nat)):=by
  have g:=Yu (l:=l2) (s:=Xa r.hn r.hs) (by rw [HL3.out];omega)
  rw [HL3.out] at g
  exact g
 have n3:0≤l3:=by omega
 have m3:l3≤1048576:=by have:=G3.out;omega
 obtain ⟨l4,hl4⟩:∃ l,Yb l3 (YR r.wn r.ws)=l:=⟨_,rfl⟩
 have c4:=szStrs_any r.wn r.ws A.wa A.wc l3 w3 (by have:=HF.out.wn;omega) n3 m3 HF.out.ws lo hi (HI.out.below hB3 hhi).ws
 rw [hl4] at c4
 have HL4:=hid hl4
 clear hl4
 obtain ⟨p0,p1,p2,p3,p4,p5,p6,p7,p8,p9,p10,p11,p12,p13,p14,p15,p16,p17⟩:=Ze H3
 go_wp2_with fail
 refine c4.mono ?_
 clear c4
 rintro e w4 ⟨rfl,he4⟩
 have hb4:Below w3.1.size w3 w4:=by rw [he4];exact br _ _
 clear he4
 clear p0 p1 p2 p3 p4 p5 p6 p7 p8 p9 p10 p11 p12 p13 p14 p15 p16 p17
 have hB4:Below w.1.size w w4:=hB3.trans (hb4.mono hB3.size)
 have H4:Holds w4 w.1.size (rcC r A):=H3.below hb4 hz3
 have hz4:w.1.size<w4.1.size:=ltl hz3 hb4.size
 clear hb4 H3
 by_cases n4:l4<0
 ·have G:l3<(YR r.wn r.ws:Nat):=Yh (by rw [HL4.out];exact n4)
  clear H4
  go_wp2
  go_ret
  exact ⟨ZE (ZH (by have:=HSZ.out;have:=G1.out;have:=G2.out;have:=G3.out;omega)).symm,hB4⟩
 have G4:Hid ((((YR r.wn r.ws:Nat):Int)≤l3)∧l4=l3-(YR r.wn r.ws:Nat)):=by
  have g:=Yu (l:=l3) (s:=YR r.wn r.ws) (by rw [HL4.out];omega)
  rw [HL4.out] at g
  exact g
 have n4:0≤l4:=by omega
 have m4:l4≤1048576:=by have:=G4.out;omega
 obtain ⟨l5,hl5⟩:∃ l,Yb l4 (r.yn)=l:=⟨_,rfl⟩
 have c5:=Ua r.yn A.ya A.yc l4 w4 (by have:=HF.out.yn;omega) n4 m4
 rw [hl5] at c5
 have HL5:=hid hl5
 clear hl5
 obtain ⟨p0,p1,p2,p3,p4,p5,p6,p7,p8,p9,p10,p11,p12,p13,p14,p15,p16,p17⟩:=Ze H4
 go_wp2_with fail
 refine c5.mono ?_
 clear c5
 rintro e w5 ⟨rfl,he5⟩
 have hb5:Below w4.1.size w4 w5:=by rw [he5];exact br _ _
 clear he5
 clear p0 p1 p2 p3 p4 p5 p6 p7 p8 p9 p10 p11 p12 p13 p14 p15 p16 p17
 have hB5:Below w.1.size w w5:=hB4.trans (hb5.mono hB4.size)
 have H5:Holds w5 w.1.size (rcC r A):=H4.below hb5 hz4
 have hz5:w.1.size<w5.1.size:=ltl hz4 hb5.size
 clear hb5 H4
 by_cases n5:l5<0
 ·have G:l4<(r.yn:Nat):=Yh (by rw [HL5.out];exact n5)
  clear H5
  go_wp2
  go_ret
  exact ⟨ZE (ZH (by have:=HSZ.out;have:=G1.out;have:=G2.out;have:=G3.out;have:=G4.out;omega)).symm,hB5⟩
 have G5:Hid ((((r.yn:Nat):Int)≤l4)∧l5=l4-(r.yn:Nat)):=by
  have g:=Yu (l:=l4) (s:=r.yn) (by rw [HL5.out];omega)
  rw [HL5.out] at g
  exact g
 have n5:0≤l5:=by omega
 have m5:l5≤1048576:=by have:=G5.out;omega
 obtain ⟨l6,hl6⟩:∃ l,Yb l5 (YJ r.bn r.bs)=l:=⟨_,rfl⟩
 have c6:=Kq r.bn r.bs A.ba A.bc l5 w5 lo hi (ltr hhi hB5.size) HF.out.bn n5 m5 HF.out.bs (HI.out.below hB5 hhi).bs
 rw [hl6] at c6
 have HL6:=hid hl6
 clear hl6
 obtain ⟨p0,p1,p2,p3,p4,p5,p6,p7,p8,p9,p10,p11,p12,p13,p14,p15,p16,p17⟩:=Ze H5
 go_wp2_with fail
 refine c6.mono ?_
 clear c6
 rintro e w6 ⟨rfl,hb6⟩
 clear p0 p1 p2 p3 p4 p5 p6 p7 p8 p9 p10 p11 p12 p13 p14 p15 p16 p17
 have hB6:Below w.1.size w w6:=hB5.trans (hb6.mono hB5.size)
 have H6:Holds w6 w.1.size (rcC r A):=H5.below hb6 hz5
 have hz6:w.1.size<w6.1.size:=ltl hz5 hb6.size
 clear hb6 H5
 by_cases n6:l6<0
 ·have G:l5<(YJ r.bn r.bs:Nat):=Yh (by rw [HL6.out];exact n6)
  clear H6
  go_wp2
  go_ret
  exact ⟨ZE (ZH (by have:=HSZ.out;have:=G1.out;have:=G2.out;have:=G3.out;have:=G4.out;have:=G5.out;omega)).symm,hB6⟩
 have G6:Hid ((((YJ r.bn r.bs:Nat):Int)≤l5)∧l6=l5-(YJ r.bn r.bs:Nat)):=by
  have g:=Yu (l:=l5) (s:=YJ r.bn r.bs) (by rw [HL6.out];omega)
  rw [HL6.out] at g
  exact g
 have n6:0≤l6:=by omega
 have m6:l6≤1048576:=by have:=G6.out;omega
 obtain ⟨l7,hl7⟩:∃ l,Yb l6 (Xb r.an r.as_)=l:=⟨_,rfl⟩
 have c7:=szAks_any r.an r.as_ A.aa A.ac l6 w6 lo hi (ltr hhi hB6.size) HF.out.an n6 m6 HF.out.as_ (HI.out.below hB6 hhi).as_
 rw [hl7] at c7
 have HL7:=hid hl7
 clear hl7
 obtain ⟨p0,p1,p2,p3,p4,p5,p6,p7,p8,p9,p10,p11,p12,p13,p14,p15,p16,p17⟩:=Ze H6
 go_wp2_with fail
 refine c7.mono ?_
 clear c7
 rintro e w7 ⟨rfl,hb7⟩
 clear p0 p1 p2 p3 p4 p5 p6 p7 p8 p9 p10 p11 p12 p13 p14 p15 p16 p17
 have hB7:Below w.1.size w w7:=hB6.trans (hb7.mono hB6.size)
 have H7:Holds w7 w.1.size (rcC r A):=H6.below hb7 hz6
 have hz7:w.1.size<w7.1.size:=ltl hz6 hb7.size
 clear hb7 H6
 by_cases n7:l7<0
 ·have G:l6<(Xb r.an r.as_:Nat):=Yh (by rw [HL7.out];exact n7)
  clear H7
  go_wp2
  go_ret
  exact ⟨ZE (ZH (by have:=HSZ.out;have:=G1.out;have:=G2.out;have:=G3.out;have:=G4.out;have:=G5.out;have:=G6.out;omega)).symm,hB7⟩
 have G7:Hid ((((Xb r.an r.as_:Nat):Int)≤l6)∧l7=l6-(Xb r.an r.as_:Nat)):=by
  have g:=Yu (l:=l6) (s:=Xb r.an r.as_) (by rw [HL7.out];omega)
  rw [HL7.out] at g
  exact g
 have n7:0≤l7:=by omega
 have m7:l7≤1048576:=by have:=G7.out;omega
 clear H7
 go_wp2
 go_ret
 exact ⟨ZE (by have:=HSZ.out;have:=G1.out;have:=G2.out;have:=G3.out;have:=G4.out;have:=G5.out;have:=G6.out;have:=G7.out;rw [YK (by omega)];omega),hB7⟩
theorem toStrs_at (n:Nat) (s:Nat→ByteArray) (ad:Option Addr) (cap:Nat) (w:World) (lo hi:Nat) (hhi:hi≤w.1.size) (hl:(n:Int)≤8796093022208)
  (hc:StrsIn w lo hi ad n s) :
  Calls Tryz.prog 43 #[.slice ad n cap] w fun e w'=>e=.returned (.slice (some ⟨w.1.size,0,none⟩) n n)∧StrsOwn w' w.1.size w'.1.size (some ⟨w.1.size,0,none⟩) n s∧Below w.1.size w w':=by
 obtain ⟨i0,hi0,hz0,hz1,hz2⟩:=info_parts Tryz.info9
 go_enter Tryz.func43,Tryz.ntmps43
 go_wp2_with (first
  | (at_make;refine wpList_make_full _ rfl _ _ 26 rfl w.1.size 9 i0 (.string ByteArray.empty) 1 Tryz.underlying26 hi0 hz0 hz1 .i64 .i64 _ _ n rfl rfl (by omega) (by omega) (by rw [hz2];omega) (by unfold maxLen;omega) (by omega) ?_;intro w1 hown1 hgrow1)
  )
 obtain ⟨r1,r2,r3⟩:=toStrs_rel hown1
 have hb1:Below w.1.size w w1:=(br _ _).grown hgrow1 (lrf _) (by simp)
 clear hown1 hgrow1 hi0 hz0 hz1 hz2
 go_loopw [4] (fun i wr=>∃ k:Nat,k≤n∧i=.int .i64 k∧Below w.1.size w wr∧w.1.size<wr.1.size∧(∀ j,j<n→∃ u,wr.cell? ⟨w.1.size,j,none⟩=some u)∧(∀ j,wr.frozen? ⟨w.1.size,j,none⟩=false)∧∀ j,j<k→wr.cell? ⟨w.1.size,j,none⟩=some (.string (s j))) (fun i _=>n-(intOf i).toNat)
 case atStart=>exact ⟨0,zle _,rfl,hb1,r3,r1,r2,fun j hj=>absurd hj (nlz _)⟩
 case round=>
  obtain ⟨k,hk,rfl,hb,hsz,hce,hfr,hdone⟩:=hrel
  clear r1 r2 r3 hb1
  by_cases hkn:k<n
  ·obtain ⟨b,off,rfl,hlo,hbh,hcx⟩:=hc k hkn
   have hcx':wr.cell? ⟨b,off+k,none⟩=some (.string (s k)):=(hb.cell (p:=⟨b,off+k,none⟩) (by show b<_;omega)).trans hcx
   obtain ⟨u,hu⟩:=hce k hkn
   have hfk:=hfr k
   have R:=toStrs_step (s:=s) hb hsz hce hfr hdone hkn
   clear hc hcx hce hfr hdone
   have HR:=hid R
   clear R
   go_wp2
   go_roundw
   case rel=>exact ⟨k+1,by omega,by go_num,HR.out⟩
   case measure=>simp [intOf];omega
  ·have:k=n:=by omega
   subst this
   have HR:=hid (And.intro hsz (And.intro hfr hdone))
   clear hc hce hfr hdone
   go_wp2
   go_ret
   exact ⟨rfl,fun i hi=>⟨_,0,rfl,lrf _,HR.out.1,by simpa using HR.out.2.2 i hi,by simpa using HR.out.2.1 i⟩,hb⟩
def MssOwnIn (w:World) (lo hi:Nat) (ad:Option Addr) (n:Nat) (x:Nat→Ms):Prop:=∃ g h r,ad=some ⟨g,0,none⟩∧lo≤g∧h≤hi∧MssOwn w g h n n x r
theorem MssOwnIn.fr {w w':World} {lo hi lo2 hi2:Nat} {ad:Option Addr} {n:Nat} {x:Nat→Ms} (k:MssOwnIn w lo hi ad n x) (hb:Fr lo2 hi2 w w') (ho:hi≤lo2∨hi2≤lo):MssOwnIn w' lo hi ad n x:=by
 obtain ⟨g,h,r,e1,e2,e3,e4⟩:=k
 exact ⟨g,h,r,e1,e2,e3,e4.fr hb (by omega)⟩
theorem MssOwnIn.isIn {w:World} {lo hi:Nat} {ad:Option Addr} {n:Nat} {x:Nat→Ms} (k:MssOwnIn w lo hi ad n x):MssIn w lo hi ad n x:=by
 obtain ⟨g,h,r,rfl,e2,e3,e4⟩:=k
 exact e4.isIn e2 e3
def AksOwnIn (w:World) (lo hi:Nat) (ad:Option Addr) (n:Nat) (x:Nat→Ak):Prop:=∃ g h r,ad=some ⟨g,0,none⟩∧lo≤g∧h≤hi∧AksOwn w g h n n x r
theorem AksOwnIn.fr {w w':World} {lo hi lo2 hi2:Nat} {ad:Option Addr} {n:Nat} {x:Nat→Ak} (k:AksOwnIn w lo hi ad n x) (hb:Fr lo2 hi2 w w') (ho:hi≤lo2∨hi2≤lo):AksOwnIn w' lo hi ad n x:=by
 obtain ⟨g,h,r,e1,e2,e3,e4⟩:=k
 exact ⟨g,h,r,e1,e2,e3,e4.fr hb (by omega)⟩
theorem AksOwnIn.isIn {w:World} {lo hi:Nat} {ad:Option Addr} {n:Nat} {x:Nat→Ak} (k:AksOwnIn w lo hi ad n x):AksIn w lo hi ad n x:=by
 obtain ⟨g,h,r,rfl,e2,e3,e4⟩:=k
 exact e4.isIn e2 e3
structure RcOwnAt (w:World) (r:Rc) (A:RcA) (lo m1 m2 m3 m4 m5 m6 hi:Nat):Prop where
 o0:SlsOwn w lo m1 A.sa r.sf.n r.sf.s
 o1:SlsOwn w m1 m2 A.da r.dk.n r.dk.s
 o2:MssOwnIn w m2 m3 A.ha r.hn r.hs
 o3:StrsOwn w m3 m4 A.wa r.wn r.ws
 o4:IntsOwn w m4 m5 A.ya r.yn r.ys
 o5:SlsOwn w m5 m6 A.ba r.bn r.bs
 o6:AksOwnIn w m6 hi A.aa r.an r.as_
 l0:lo≤m1
 l1:m1≤m2
 l2:m2≤m3
 l3:m3≤m4
 l4:m4≤m5
 l5:m5≤m6
 l6:m6≤hi
 top:hi≤w.1.size
theorem RcOwnAt.isIn {w:World} {r:Rc} {A:RcA} {lo m1 m2 m3 m4 m5 m6 hi:Nat} (h:RcOwnAt w r A lo m1 m2 m3 m4 m5 m6 hi):RcIn w lo hi r A:=by
 obtain ⟨o0,o1,o2,o3,o4,o5,o6,l0,l1,l2,l3,l4,l5,l6,top⟩:=h
 exact ⟨o0.isIn.mono (by omega) (by omega),o1.isIn.mono (by omega) (by omega),o2.isIn.mono (by omega) (by omega),o3.isIn.mono (by omega) (by omega),o4.isIn.mono (by omega) (by omega),o5.isIn.mono (by omega) (by omega),o6.isIn.mono (by omega) (by omega)⟩
structure ZX (r:Rc) (A:RcA):Prop where
 sa:∃ g,A.sa=some ⟨g,0,none⟩
 da:∃ g,A.da=some ⟨g,0,none⟩
 wa:∃ g,A.wa=some ⟨g,0,none⟩
 sc:A.sc=r.sf.n
 dc:A.dc=r.dk.n
 wc:A.wc=r.wn
structure ZW (r:Rc):Prop where
 sf:(r.sf.n:Int)≤1048576
 dk:(r.dk.n:Int)≤1048576
 hn:(r.hn:Int)≤1048576
 hs:∀ i,i<r.hn→((r.hs i).n:Int)≤1048576
 wn:(r.wn:Int)≤1048576
 yn:(r.yn:Int)≤1048576
 bn:(r.bn:Int)≤1048576
 an:(r.an:Int)≤1048576
 as_:∀ i,i<r.an→((r.as_ i).n:Int)≤1048576
theorem Zv {P:Program} {fn:Func} {p:Tmp} {ty:TypeId} (h:fn.results=#[.cell p ty]) (tmps:Array Value) (w:World) (g:Nat) (cs:List Value) (d:TypeDesc)
  (hp:tmps.getD p undef=.pointer (some ⟨g,0,none⟩)) (hc:w.rangeAt g 0 cs)
  (hu:P.underlying ty=some d) (hd:d.isRow=true) (hi:(P.info? ty).map (·.size)=some cs.length) :
  (results fn tmps).run P w=.ok (.agg cs.toArray) w:=by
 have hp':tmps[p]?.getD undef=.pointer (some ⟨g,0,none⟩):=by simpa using hp
 simp [results,h,hp',asAddr,run_loadVar_mid w g 0 ty cs d hc hu hd hi]
theorem XJ {P:Program} {ops:Array Oper} {rest:List Oper} {op:Oper} {a:Act} {w:World} {Q:Exit→Act→World→Prop} (hgd:op.guard=none) (ty:TypeId) (x y:Operand) (ho:op.op=.store ty x y)
  (b:Nat) (cs:List Value) (hx:a.eval x=.pointer (some ⟨b,0,none⟩)) (hy:a.eval y=.agg cs.toArray)
  (ht:w.there b 0 cs.length) (hi:(P.info? ty).map (·.size)=some cs.length) (h1:∀ v ∈ cs,v.oneCell'=true)
  (h:∀ W2:World,W2.rangeAt b 0 cs→Fr b (b+1) w W2→W2.1.size=w.1.size→wpList P ops Q rest (a.put op.dst undef) W2):wpList P ops Q (op::rest) a w:=
 wpList_store_mid hgd ty x y ho b 0 cs.toArray hx hy (by simpa using ht) (by simpa using hi) (all_oneCell_toArray h1) (h _ (World.rangeAt_setCells_same _ _ _ _ ht) (Zx _ _ _ _) (ZB _ _ _ _))
theorem Tryz.sz38:(Tryz.prog.info? 38).map (·.size)=some 18:=by kernel_rfl
theorem Fr.widen {lo hi lo2 hi2:Nat} {w w':World} (h:Fr lo hi w w') (h1:lo2≤lo) (h2:hi≤hi2):Fr lo2 hi2 w w':=⟨h.os,h.tape,h.output,h.size,fun k hk ho=>h.block k hk (by omega)⟩
theorem Holds.range {W:World} {B:Nat} {cs:List Value} (h:Holds W B cs.toArray):W.rangeAt B 0 cs:=fun j v hv=>by
 rw [Nat.zero_add,h j]
 simpa using hv
theorem LD38 {ops:Array Oper} {rest:List Oper} {op:Oper} {a:Act} {w:World} {Q:Exit→Act→World→Prop} {x:Operand} {b:Nat} (cs:List Value) (hc:Holds w b cs.toArray) (h:wpList Tryz.prog ops Q rest (a.put op.dst (.agg cs.toArray)) w) (hgd:op.guard=none:=by rfl) (ho:op.op=.load 38 x:=by rfl) (hx:a.eval x=.pointer (some ⟨b,0,none⟩):=by rfl) (hl:some 18=some cs.length:=by rfl):wpList Tryz.prog ops Q (op::rest) a w:=wpList_load_mid hgd 38 x ho b 0 hx cs _ (Holds.range (cs:=cs) hc) Tryz.underlying38 rfl (Tryz.sz38.trans hl) h
theorem RZ {fn:Func} {Q:Ending→World→Prop} {tmps:Array Value} {w:World} {g:Nat} {p:Tmp} (cs:List Value) (hc:Holds w g cs.toArray) (hq:Q (.returned (.agg cs.toArray)) w) (hr:fn.results=#[.cell p 38]:=by rfl) (hp:tmps.getD p undef=.pointer (some ⟨g,0,none⟩):=by rfl) (hl:some 18=some cs.length:=by rfl):bodyPost Tryz.prog fn Q .ret ⟨tmps,[]⟩ w:=bodyPost_ret (Zv hr tmps w g cs _ hp (Holds.range (cs:=cs) hc) Tryz.underlying38 rfl (Tryz.sz38.trans hl)) rfl hq
theorem Holds.there {W:World} {B:Nat} {c:Array Value} (h:Holds W B c) (hf:∀ i,W.frozen? ⟨B,i,none⟩=false):W.there B 0 c.size:=fun j hj=>by
 rw [Nat.zero_add,h j]
 exact ⟨by simp [hj],hf j⟩
theorem J7 {W:World} {B:Nat} {v0 v1 v2 v3 v4 v5 v6 v7 v8 v9 v10 v11 v12 v13 v14 v15 v16 v17:Value} (h:Holds W B #[v0,v1,v2,v3,v4,v5,v6,v7,v8,v9,v10,v11,v12,v13,v14,v15,v16,v17]) (v:Value):Holds (W.setCell ⟨B,3,none⟩ v) B #[v0,v1,v2,v,v4,v5,v6,v7,v8,v9,v10,v11,v12,v13,v14,v15,v16,v17]:=h.set (i:=3) (by simp) v
theorem hset4 {W:World} {B:Nat} {v0 v1 v2 v3 v4 v5 v6 v7 v8 v9 v10 v11 v12 v13 v14 v15 v16 v17:Value} (h:Holds W B #[v0,v1,v2,v3,v4,v5,v6,v7,v8,v9,v10,v11,v12,v13,v14,v15,v16,v17]) (v:Value):Holds (W.setCell ⟨B,4,none⟩ v) B #[v0,v1,v2,v3,v,v5,v6,v7,v8,v9,v10,v11,v12,v13,v14,v15,v16,v17]:=h.set (i:=4) (by simp) v
theorem hset5 {W:World} {B:Nat} {v0 v1 v2 v3 v4 v5 v6 v7 v8 v9 v10 v11 v12 v13 v14 v15 v16 v17:Value} (h:Holds W B #[v0,v1,v2,v3,v4,v5,v6,v7,v8,v9,v10,v11,v12,v13,v14,v15,v16,v17]) (v:Value):Holds (W.setCell ⟨B,5,none⟩ v) B #[v0,v1,v2,v3,v4,v,v6,v7,v8,v9,v10,v11,v12,v13,v14,v15,v16,v17]:=h.set (i:=5) (by simp) v
theorem YT {W:World} {B:Nat} {v0 v1 v2 v3 v4 v5 v6 v7 v8 v9 v10 v11 v12 v13 v14 v15 v16 v17:Value} (h:Holds W B #[v0,v1,v2,v3,v4,v5,v6,v7,v8,v9,v10,v11,v12,v13,v14,v15,v16,v17]) (v:Value):Holds (W.setCell ⟨B,6,none⟩ v) B #[v0,v1,v2,v3,v4,v5,v,v7,v8,v9,v10,v11,v12,v13,v14,v15,v16,v17]:=h.set (i:=6) (by simp) v
theorem Jp {W:World} {B:Nat} {v0 v1 v2 v3 v4 v5 v6 v7 v8 v9 v10 v11 v12 v13 v14 v15 v16 v17:Value} (h:Holds W B #[v0,v1,v2,v3,v4,v5,v6,v7,v8,v9,v10,v11,v12,v13,v14,v15,v16,v17]) (v:Value):Holds (W.setCell ⟨B,7,none⟩ v) B #[v0,v1,v2,v3,v4,v5,v6,v,v8,v9,v10,v11,v12,v13,v14,v15,v16,v17]:=h.set (i:=7) (by simp) v
theorem hset8 {W:World} {B:Nat} {v0 v1 v2 v3 v4 v5 v6 v7 v8 v9 v10 v11 v12 v13 v14 v15 v16 v17:Value} (h:Holds W B #[v0,v1,v2,v3,v4,v5,v6,v7,v8,v9,v10,v11,v12,v13,v14,v15,v16,v17]) (v:Value):Holds (W.setCell ⟨B,8,none⟩ v) B #[v0,v1,v2,v3,v4,v5,v6,v7,v,v9,v10,v11,v12,v13,v14,v15,v16,v17]:=h.set (i:=8) (by simp) v
theorem hset9 {W:World} {B:Nat} {v0 v1 v2 v3 v4 v5 v6 v7 v8 v9 v10 v11 v12 v13 v14 v15 v16 v17:Value} (h:Holds W B #[v0,v1,v2,v3,v4,v5,v6,v7,v8,v9,v10,v11,v12,v13,v14,v15,v16,v17]) (v:Value):Holds (W.setCell ⟨B,9,none⟩ v) B #[v0,v1,v2,v3,v4,v5,v6,v7,v8,v,v10,v11,v12,v13,v14,v15,v16,v17]:=h.set (i:=9) (by simp) v
theorem Um {W:World} {B:Nat} {v0 v1 v2 v3 v4 v5 v6 v7 v8 v9 v10 v11 v12 v13 v14 v15 v16 v17:Value} (h:Holds W B #[v0,v1,v2,v3,v4,v5,v6,v7,v8,v9,v10,v11,v12,v13,v14,v15,v16,v17]) (v:Value):Holds (W.setCell ⟨B,10,none⟩ v) B #[v0,v1,v2,v3,v4,v5,v6,v7,v8,v9,v,v11,v12,v13,v14,v15,v16,v17]:=h.set (i:=10) (by simp) v
theorem Zs {W:World} {B:Nat} {v0 v1 v2 v3 v4 v5 v6 v7 v8 v9 v10 v11 v12 v13 v14 v15 v16 v17:Value} (h:Holds W B #[v0,v1,v2,v3,v4,v5,v6,v7,v8,v9,v10,v11,v12,v13,v14,v15,v16,v17]) (v:Value):Holds (W.setCell ⟨B,11,none⟩ v) B #[v0,v1,v2,v3,v4,v5,v6,v7,v8,v9,v10,v,v12,v13,v14,v15,v16,v17]:=h.set (i:=11) (by simp) v
theorem ZN {W:World} {B:Nat} {v0 v1 v2 v3 v4 v5 v6 v7 v8 v9 v10 v11 v12 v13 v14 v15 v16 v17:Value} (h:Holds W B #[v0,v1,v2,v3,v4,v5,v6,v7,v8,v9,v10,v11,v12,v13,v14,v15,v16,v17]) (v:Value):Holds (W.setCell ⟨B,12,none⟩ v) B #[v0,v1,v2,v3,v4,v5,v6,v7,v8,v9,v10,v11,v,v13,v14,v15,v16,v17]:=h.set (i:=12) (by simp) v
theorem Xx {W:World} {B:Nat} {v0 v1 v2 v3 v4 v5 v6 v7 v8 v9 v10 v11 v12 v13 v14 v15 v16 v17:Value} (h:Holds W B #[v0,v1,v2,v3,v4,v5,v6,v7,v8,v9,v10,v11,v12,v13,v14,v15,v16,v17]) (v:Value):Holds (W.setCell ⟨B,13,none⟩ v) B #[v0,v1,v2,v3,v4,v5,v6,v7,v8,v9,v10,v11,v12,v,v14,v15,v16,v17]:=h.set (i:=13) (by simp) v
theorem YU {W:World} {B:Nat} {v0 v1 v2 v3 v4 v5 v6 v7 v8 v9 v10 v11 v12 v13 v14 v15 v16 v17:Value} (h:Holds W B #[v0,v1,v2,v3,v4,v5,v6,v7,v8,v9,v10,v11,v12,v13,v14,v15,v16,v17]) (v:Value):Holds (W.setCell ⟨B,14,none⟩ v) B #[v0,v1,v2,v3,v4,v5,v6,v7,v8,v9,v10,v11,v12,v13,v,v15,v16,v17]:=h.set (i:=14) (by simp) v
theorem XI {W:World} {B:Nat} {v0 v1 v2 v3 v4 v5 v6 v7 v8 v9 v10 v11 v12 v13 v14 v15 v16 v17:Value} (h:Holds W B #[v0,v1,v2,v3,v4,v5,v6,v7,v8,v9,v10,v11,v12,v13,v14,v15,v16,v17]) (v:Value):Holds (W.setCell ⟨B,15,none⟩ v) B #[v0,v1,v2,v3,v4,v5,v6,v7,v8,v9,v10,v11,v12,v13,v14,v,v16,v17]:=h.set (i:=15) (by simp) v
theorem JM {W:World} {B:Nat} {v0 v1 v2 v3 v4 v5 v6 v7 v8 v9 v10 v11 v12 v13 v14 v15 v16 v17:Value} (h:Holds W B #[v0,v1,v2,v3,v4,v5,v6,v7,v8,v9,v10,v11,v12,v13,v14,v15,v16,v17]) (v:Value):Holds (W.setCell ⟨B,16,none⟩ v) B #[v0,v1,v2,v3,v4,v5,v6,v7,v8,v9,v10,v11,v12,v13,v14,v15,v,v17]:=h.set (i:=16) (by simp) v
theorem X0 {W:World} {B:Nat} {v0 v1 v2 v3 v4 v5 v6 v7 v8 v9 v10 v11 v12 v13 v14 v15 v16 v17:Value} (h:Holds W B #[v0,v1,v2,v3,v4,v5,v6,v7,v8,v9,v10,v11,v12,v13,v14,v15,v16,v17]) (v:Value):Holds (W.setCell ⟨B,17,none⟩ v) B #[v0,v1,v2,v3,v4,v5,v6,v7,v8,v9,v10,v11,v12,v13,v14,v15,v16,v]:=h.set (i:=17) (by simp) v
theorem K8 (r:Rc) (A:RcA) (w:World) (lo hi:Nat) (hhi:hi≤w.1.size) (hm:ZW r) (hc:RcIn w lo hi r A) :
  Calls Tryz.prog 8 #[rcV r A] w fun e w'=>∃ A' m1 m2 m3 m4 m5 m6,e=.returned (rcV r A')∧ZX r A'∧RcOwnAt w' r A' w.1.size m1 m2 m3 m4 m5 m6 w'.1.size∧Below w.1.size w w':=by
 have HM:=hid hm
 have HI:=hid hc
 clear hm hc
 go_enter Tryz.func8,Tryz.ntmps8
 go_wp2_with fail
 refine (toDk_any r.sf A.sa A.sc _ lo hi (by simp;omega) (by have:=HM.out.sf;omega) (HI.out.below (B:=w.1.size) ((((br _ _).alloc (lrf _) _).alloc (by simp) _).alloc (by simp;omega) _) hhi).sf).mono ?_
 rintro e w1 ⟨g1,rfl,s1,hb1⟩
 have hB1:Below w.1.size w w1:=((((br _ _).alloc (lrf _) _).alloc (by simp) _).alloc (by simp;omega) _).trans (hb1.mono (by simp;omega))
 have hz1:w.1.size+1+1<w1.1.size:=by have:=hb1.size;simp at this;omega
 obtain ⟨P1,R1,O1,F1,F2⟩:=three_cell hb1
 simp only [World.size_alloc] at s1
 have S1_1:=hid s1
 clear s1 hb1
 have PP1:Holds w1 w.1.size (rcC r A):=P1
 have OO1:Holds w1 (w.1.size+1+1) #[.int .i64 r.num,.int .i64 r.of,.bool r.up,.int .i64 0,.int .i64 0,.slice none 0 0,.int .i64 0,.int .i64 0,.slice none 0 0,.slice none 0 0,.slice none 0 0,.bool false,.bool false,.int .i64 0,.slice none 0 0,.slice none 0 0,.slice none 0 0,.int .i64 0]:=O1
 have RR1:Holds w1 (w.1.size+1) #[.int .i64 0,.int .i64 0,.bool false,.int .i64 0,.int .i64 0,.slice none 0 0,.int .i64 0,.int .i64 0,.slice none 0 0,.slice none 0 0,.slice none 0 0,.bool false,.bool false,.int .i64 0,.slice none 0 0,.slice none 0 0,.slice none 0 0,.int .i64 0]:=R1
 have hBW1:Below w.1.size w (((w1.setCell ⟨w.1.size+1+1,3,none⟩ (.int .i64 r.sf.pr)).setCell ⟨w.1.size+1+1,4,none⟩ (.int .i64 r.sf.kn)).setCell ⟨w.1.size+1+1,5,none⟩ (.slice (some ⟨g1,0,none⟩) r.sf.n r.sf.n)):=(((hB1.setCell (p:=⟨w.1.size+1+1,3,none⟩) (by show w.1.size≤w.1.size+1+1;omega) (.int .i64 r.sf.pr)).setCell (p:=⟨w.1.size+1+1,4,none⟩) (by show w.1.size≤w.1.size+1+1;omega) (.int .i64 r.sf.kn)).setCell (p:=⟨w.1.size+1+1,5,none⟩) (by show w.1.size≤w.1.size+1+1;omega) (.slice (some ⟨g1,0,none⟩) r.sf.n r.sf.n))
 have hF1:Fr (w.1.size+2) (w.1.size+3) w1 (((w1.setCell ⟨w.1.size+1+1,3,none⟩ (.int .i64 r.sf.pr)).setCell ⟨w.1.size+1+1,4,none⟩ (.int .i64 r.sf.kn)).setCell ⟨w.1.size+1+1,5,none⟩ (.slice (some ⟨g1,0,none⟩) r.sf.n r.sf.n)):=(Fr.setCell (Fr.setCell (Fr.setCell (Fr.refl (w.1.size+2) (w.1.size+3) w1) (p:=⟨w.1.size+1+1,3,none⟩) (by show w.1.size+2≤w.1.size+1+1;omega) (by show w.1.size+1+1<w.1.size+3;omega) (.int .i64 r.sf.pr)) (p:=⟨w.1.size+1+1,4,none⟩) (by show w.1.size+2≤w.1.size+1+1;omega) (by show w.1.size+1+1<w.1.size+3;omega) (.int .i64 r.sf.kn)) (p:=⟨w.1.size+1+1,5,none⟩) (by show w.1.size+2≤w.1.size+1+1;omega) (by show w.1.size+1+1<w.1.size+3;omega) (.slice (some ⟨g1,0,none⟩) r.sf.n r.sf.n))
 clear P1 O1 R1
 obtain ⟨p0,p1,p2,p3,p4,p5,p6,p7,p8,p9,p10,p11,p12,p13,p14,p15,p16,p17⟩:=Ze PP1
 obtain ⟨o0,o1,o2,o3,o4,o5,o6,o7,o8,o9,o10,o11,o12,o13,o14,o15,o16,o17⟩:=Ze OO1
 go_wp2_with fail
 refine (toDk_any r.dk A.da A.dc _ lo hi (by simp only [World.size_setCell];have:=hB1.size;omega) (by have:=HM.out.dk;omega) (HI.out.below (B:=w.1.size) hBW1 hhi).dk).mono ?_
 clear p0 p1 p2 p3 p4 p5 p6 p7 p8 p9 p10 p11 p12 p13 p14 p15 p16 p17 o0 o1 o2 o3 o4 o5 o6 o7 o8 o9 o10 o11 o12 o13 o14 o15 o16 o17
 rintro e w2 ⟨g2,rfl,s2,hb2⟩
 have hx2:Below w1.1.size (((w1.setCell ⟨w.1.size+1+1,3,none⟩ (.int .i64 r.sf.pr)).setCell ⟨w.1.size+1+1,4,none⟩ (.int .i64 r.sf.kn)).setCell ⟨w.1.size+1+1,5,none⟩ (.slice (some ⟨g1,0,none⟩) r.sf.n r.sf.n)) w2:=hb2.mono (by simp only [World.size_setCell];exact lrf _)
 have hG2:Fr 0 0 (((w1.setCell ⟨w.1.size+1+1,3,none⟩ (.int .i64 r.sf.pr)).setCell ⟨w.1.size+1+1,4,none⟩ (.int .i64 r.sf.kn)).setCell ⟨w.1.size+1+1,5,none⟩ (.slice (some ⟨g1,0,none⟩) r.sf.n r.sf.n)) w2:=Fr.of_below hb2
 clear hb2
 simp only [World.size_setCell] at s2
 have hB2:Below w.1.size w w2:=hBW1.trans (hx2.mono (by omega))
 have hy2:w1.1.size≤w2.1.size:=by have:=hx2.size;simp only [World.size_setCell] at this;exact this
 have hz2:w.1.size+1+1<w2.1.size:=by omega
 have P2:Holds w2 w.1.size (rcC r A):=(PP1.fr hF1 (by omega) (Or.inl (by omega))).below hx2 (by omega)
 have R2:Holds w2 (w.1.size+1) #[.int .i64 0,.int .i64 0,.bool false,.int .i64 0,.int .i64 0,.slice none 0 0,.int .i64 0,.int .i64 0,.slice none 0 0,.slice none 0 0,.slice none 0 0,.bool false,.bool false,.int .i64 0,.slice none 0 0,.slice none 0 0,.slice none 0 0,.int .i64 0]:=(RR1.fr hF1 (by omega) (Or.inl (by omega))).below hx2 (by omega)
 have O2:Holds w2 (w.1.size+1+1) #[.int .i64 r.num,.int .i64 r.of,.bool r.up,.int .i64 r.sf.pr,.int .i64 r.sf.kn,.slice (some ⟨g1,0,none⟩) r.sf.n r.sf.n,.int .i64 0,.int .i64 0,.slice none 0 0,.slice none 0 0,.slice none 0 0,.bool false,.bool false,.int .i64 0,.slice none 0 0,.slice none 0 0,.slice none 0 0,.int .i64 0]:=Holds.below (hset5 (hset4 (J7 OO1 (.int .i64 r.sf.pr)) (.int .i64 r.sf.kn)) (.slice (some ⟨g1,0,none⟩) r.sf.n r.sf.n)) hx2 (by omega)
 have F1_2:∀ i,w2.frozen? ⟨w.1.size+1,i,none⟩=false:=fun i=>((hx2.frozen (p:=⟨w.1.size+1,i,none⟩) (by show w.1.size+1<_;omega)).trans (hF1.frozen (p:=⟨w.1.size+1,i,none⟩) (by show w.1.size+1<_;omega) (Or.inl (by show w.1.size+1<_;omega)))).trans (F1 i)
 have F2_2:∀ i,w2.frozen? ⟨w.1.size+1+1,i,none⟩=false:=fun i=>((hx2.frozen (p:=⟨w.1.size+1+1,i,none⟩) (by show w.1.size+1+1<_;omega)).trans (by simp only [World.frozen?_setCell])).trans (F2 i)
 have S1_2:=hid ((S1_1.out.fr hF1 (Or.inr (by omega))).fr hG2 (Or.inr (zle _)))
 have S2_2:=hid s2
 clear s2 PP1 OO1 RR1 hBW1 hF1 hG2 hx2 F1 F2 S1_1
 have PP2:Holds w2 w.1.size (rcC r A):=P2
 have OO2:Holds w2 (w.1.size+1+1) #[.int .i64 r.num,.int .i64 r.of,.bool r.up,.int .i64 r.sf.pr,.int .i64 r.sf.kn,.slice (some ⟨g1,0,none⟩) r.sf.n r.sf.n,.int .i64 0,.int .i64 0,.slice none 0 0,.slice none 0 0,.slice none 0 0,.bool false,.bool false,.int .i64 0,.slice none 0 0,.slice none 0 0,.slice none 0 0,.int .i64 0]:=O2
 have RR2:Holds w2 (w.1.size+1) #[.int .i64 0,.int .i64 0,.bool false,.int .i64 0,.int .i64 0,.slice none 0 0,.int .i64 0,.int .i64 0,.slice none 0 0,.slice none 0 0,.slice none 0 0,.bool false,.bool false,.int .i64 0,.slice none 0 0,.slice none 0 0,.slice none 0 0,.int .i64 0]:=R2
 have hBW2:Below w.1.size w (((w2.setCell ⟨w.1.size+1+1,6,none⟩ (.int .i64 r.dk.pr)).setCell ⟨w.1.size+1+1,7,none⟩ (.int .i64 r.dk.kn)).setCell ⟨w.1.size+1+1,8,none⟩ (.slice (some ⟨g2,0,none⟩) r.dk.n r.dk.n)):=(((hB2.setCell (p:=⟨w.1.size+1+1,6,none⟩) (by show w.1.size≤w.1.size+1+1;omega) (.int .i64 r.dk.pr)).setCell (p:=⟨w.1.size+1+1,7,none⟩) (by show w.1.size≤w.1.size+1+1;omega) (.int .i64 r.dk.kn)).setCell (p:=⟨w.1.size+1+1,8,none⟩) (by show w.1.size≤w.1.size+1+1;omega) (.slice (some ⟨g2,0,none⟩) r.dk.n r.dk.n))
 have hF2:Fr (w.1.size+2) (w.1.size+3) w2 (((w2.setCell ⟨w.1.size+1+1,6,none⟩ (.int .i64 r.dk.pr)).setCell ⟨w.1.size+1+1,7,none⟩ (.int .i64 r.dk.kn)).setCell ⟨w.1.size+1+1,8,none⟩ (.slice (some ⟨g2,0,none⟩) r.dk.n r.dk.n)):=(Fr.setCell (Fr.setCell (Fr.setCell (Fr.refl (w.1.size+2) (w.1.size+3) w2) (p:=⟨w.1.size+1+1,6,none⟩) (by show w.1.size+2≤w.1.size+1+1;omega) (by show w.1.size+1+1<w.1.size+3;omega) (.int .i64 r.dk.pr)) (p:=⟨w.1.size+1+1,7,none⟩) (by show w.1.size+2≤w.1.size+1+1;omega) (by show w.1.size+1+1<w.1.size+3;omega) (.int .i64 r.dk.kn)) (p:=⟨w.1.size+1+1,8,none⟩) (by show w.1.size+2≤w.1.size+1+1;omega) (by show w.1.size+1+1<w.1.size+3;omega) (.slice (some ⟨g2,0,none⟩) r.dk.n r.dk.n))
 clear P2 O2 R2
 obtain ⟨p0,p1,p2,p3,p4,p5,p6,p7,p8,p9,p10,p11,p12,p13,p14,p15,p16,p17⟩:=Ze PP2
 obtain ⟨o0,o1,o2,o3,o4,o5,o6,o7,o8,o9,o10,o11,o12,o13,o14,o15,o16,o17⟩:=Ze OO2
 go_wp2_with fail
 refine (toMss_any r.hn r.hs A.ha A.hc _ lo hi (by simp only [World.size_setCell];have:=hB2.size;omega) HM.out.hn HM.out.hs (HI.out.below (B:=w.1.size) hBW2 hhi).hs).mono ?_
 clear p0 p1 p2 p3 p4 p5 p6 p7 p8 p9 p10 p11 p12 p13 p14 p15 p16 p17 o0 o1 o2 o3 o4 o5 o6 o7 o8 o9 o10 o11 o12 o13 o14 o15 o16 o17
 rintro e w3 ⟨r3,rfl,s3,hb3⟩
 have hx3:Below w2.1.size (((w2.setCell ⟨w.1.size+1+1,6,none⟩ (.int .i64 r.dk.pr)).setCell ⟨w.1.size+1+1,7,none⟩ (.int .i64 r.dk.kn)).setCell ⟨w.1.size+1+1,8,none⟩ (.slice (some ⟨g2,0,none⟩) r.dk.n r.dk.n)) w3:=hb3.mono (by simp only [World.size_setCell];exact lrf _)
 have hG3:Fr 0 0 (((w2.setCell ⟨w.1.size+1+1,6,none⟩ (.int .i64 r.dk.pr)).setCell ⟨w.1.size+1+1,7,none⟩ (.int .i64 r.dk.kn)).setCell ⟨w.1.size+1+1,8,none⟩ (.slice (some ⟨g2,0,none⟩) r.dk.n r.dk.n)) w3:=Fr.of_below hb3
 clear hb3
 simp only [World.size_setCell] at s3
 have hB3:Below w.1.size w w3:=hBW2.trans (hx3.mono (by omega))
 have hy3:w2.1.size≤w3.1.size:=by have:=hx3.size;simp only [World.size_setCell] at this;exact this
 have hz3:w.1.size+1+1<w3.1.size:=by omega
 have P3:Holds w3 w.1.size (rcC r A):=(PP2.fr hF2 (by omega) (Or.inl (by omega))).below hx3 (by omega)
 have R3:Holds w3 (w.1.size+1) #[.int .i64 0,.int .i64 0,.bool false,.int .i64 0,.int .i64 0,.slice none 0 0,.int .i64 0,.int .i64 0,.slice none 0 0,.slice none 0 0,.slice none 0 0,.bool false,.bool false,.int .i64 0,.slice none 0 0,.slice none 0 0,.slice none 0 0,.int .i64 0]:=(RR2.fr hF2 (by omega) (Or.inl (by omega))).below hx3 (by omega)
 have O3:Holds w3 (w.1.size+1+1) #[.int .i64 r.num,.int .i64 r.of,.bool r.up,.int .i64 r.sf.pr,.int .i64 r.sf.kn,.slice (some ⟨g1,0,none⟩) r.sf.n r.sf.n,.int .i64 r.dk.pr,.int .i64 r.dk.kn,.slice (some ⟨g2,0,none⟩) r.dk.n r.dk.n,.slice none 0 0,.slice none 0 0,.bool false,.bool false,.int .i64 0,.slice none 0 0,.slice none 0 0,.slice none 0 0,.int .i64 0]:=Holds.below (hset8 (Jp (YT OO2 (.int .i64 r.dk.pr)) (.int .i64 r.dk.kn)) (.slice (some ⟨g2,0,none⟩) r.dk.n r.dk.n)) hx3 (by omega)
 have F1_3:∀ i,w3.frozen? ⟨w.1.size+1,i,none⟩=false:=fun i=>((hx3.frozen (p:=⟨w.1.size+1,i,none⟩) (by show w.1.size+1<_;omega)).trans (hF2.frozen (p:=⟨w.1.size+1,i,none⟩) (by show w.1.size+1<_;omega) (Or.inl (by show w.1.size+1<_;omega)))).trans (F1_2 i)
 have F2_3:∀ i,w3.frozen? ⟨w.1.size+1+1,i,none⟩=false:=fun i=>((hx3.frozen (p:=⟨w.1.size+1+1,i,none⟩) (by show w.1.size+1+1<_;omega)).trans (by simp only [World.frozen?_setCell])).trans (F2_2 i)
 have S1_3:=hid ((S1_2.out.fr hF2 (Or.inr (by omega))).fr hG3 (Or.inr (zle _)))
 have S2_3:=hid ((S2_2.out.fr hF2 (Or.inr (by omega))).fr hG3 (Or.inr (zle _)))
 have S3_3:=hid s3
 clear s3 PP2 OO2 RR2 hBW2 hF2 hG3 hx3 F1_2 F2_2 S1_2 S2_2
 have PP3:Holds w3 w.1.size (rcC r A):=P3
 have OO3:Holds w3 (w.1.size+1+1) #[.int .i64 r.num,.int .i64 r.of,.bool r.up,.int .i64 r.sf.pr,.int .i64 r.sf.kn,.slice (some ⟨g1,0,none⟩) r.sf.n r.sf.n,.int .i64 r.dk.pr,.int .i64 r.dk.kn,.slice (some ⟨g2,0,none⟩) r.dk.n r.dk.n,.slice none 0 0,.slice none 0 0,.bool false,.bool false,.int .i64 0,.slice none 0 0,.slice none 0 0,.slice none 0 0,.int .i64 0]:=O3
 have RR3:Holds w3 (w.1.size+1) #[.int .i64 0,.int .i64 0,.bool false,.int .i64 0,.int .i64 0,.slice none 0 0,.int .i64 0,.int .i64 0,.slice none 0 0,.slice none 0 0,.slice none 0 0,.bool false,.bool false,.int .i64 0,.slice none 0 0,.slice none 0 0,.slice none 0 0,.int .i64 0]:=R3
 have hBW3:Below w.1.size w (w3.setCell ⟨w.1.size+1+1,9,none⟩ (.slice (some ⟨w2.1.size,0,none⟩) r.hn r.hn)):=(hB3.setCell (p:=⟨w.1.size+1+1,9,none⟩) (by show w.1.size≤w.1.size+1+1;omega) (.slice (some ⟨w2.1.size,0,none⟩) r.hn r.hn))
 have hF3:Fr (w.1.size+2) (w.1.size+3) w3 (w3.setCell ⟨w.1.size+1+1,9,none⟩ (.slice (some ⟨w2.1.size,0,none⟩) r.hn r.hn)):=(Fr.setCell (Fr.refl (w.1.size+2) (w.1.size+3) w3) (p:=⟨w.1.size+1+1,9,none⟩) (by show w.1.size+2≤w.1.size+1+1;omega) (by show w.1.size+1+1<w.1.size+3;omega) (.slice (some ⟨w2.1.size,0,none⟩) r.hn r.hn))
 clear P3 O3 R3
 obtain ⟨p0,p1,p2,p3,p4,p5,p6,p7,p8,p9,p10,p11,p12,p13,p14,p15,p16,p17⟩:=Ze PP3
 obtain ⟨o0,o1,o2,o3,o4,o5,o6,o7,o8,o9,o10,o11,o12,o13,o14,o15,o16,o17⟩:=Ze OO3
 go_wp2_with fail
 refine (toStrs_at r.wn r.ws A.wa A.wc _ lo hi (by simp only [World.size_setCell];have:=hB3.size;omega) (by have:=HM.out.wn;omega) (HI.out.below (B:=w.1.size) hBW3 hhi).ws).mono ?_
 clear p0 p1 p2 p3 p4 p5 p6 p7 p8 p9 p10 p11 p12 p13 p14 p15 p16 p17 o0 o1 o2 o3 o4 o5 o6 o7 o8 o9 o10 o11 o12 o13 o14 o15 o16 o17
 rintro e w4 ⟨rfl,s4,hb4⟩
 have hx4:Below w3.1.size (w3.setCell ⟨w.1.size+1+1,9,none⟩ (.slice (some ⟨w2.1.size,0,none⟩) r.hn r.hn)) w4:=hb4.mono (by simp only [World.size_setCell];exact lrf _)
 have hG4:Fr 0 0 (w3.setCell ⟨w.1.size+1+1,9,none⟩ (.slice (some ⟨w2.1.size,0,none⟩) r.hn r.hn)) w4:=Fr.of_below hb4
 clear hb4
 simp only [World.size_setCell] at s4
 have hB4:Below w.1.size w w4:=hBW3.trans (hx4.mono (by omega))
 have hy4:w3.1.size≤w4.1.size:=by have:=hx4.size;simp only [World.size_setCell] at this;exact this
 have hz4:w.1.size+1+1<w4.1.size:=by omega
 have P4:Holds w4 w.1.size (rcC r A):=(PP3.fr hF3 (by omega) (Or.inl (by omega))).below hx4 (by omega)
 have R4:Holds w4 (w.1.size+1) #[.int .i64 0,.int .i64 0,.bool false,.int .i64 0,.int .i64 0,.slice none 0 0,.int .i64 0,.int .i64 0,.slice none 0 0,.slice none 0 0,.slice none 0 0,.bool false,.bool false,.int .i64 0,.slice none 0 0,.slice none 0 0,.slice none 0 0,.int .i64 0]:=(RR3.fr hF3 (by omega) (Or.inl (by omega))).below hx4 (by omega)
 have O4:Holds w4 (w.1.size+1+1) #[.int .i64 r.num,.int .i64 r.of,.bool r.up,.int .i64 r.sf.pr,.int .i64 r.sf.kn,.slice (some ⟨g1,0,none⟩) r.sf.n r.sf.n,.int .i64 r.dk.pr,.int .i64 r.dk.kn,.slice (some ⟨g2,0,none⟩) r.dk.n r.dk.n,.slice (some ⟨w2.1.size,0,none⟩) r.hn r.hn,.slice none 0 0,.bool false,.bool false,.int .i64 0,.slice none 0 0,.slice none 0 0,.slice none 0 0,.int .i64 0]:=Holds.below (hset9 OO3 (.slice (some ⟨w2.1.size,0,none⟩) r.hn r.hn)) hx4 (by omega)
 have F1_4:∀ i,w4.frozen? ⟨w.1.size+1,i,none⟩=false:=fun i=>((hx4.frozen (p:=⟨w.1.size+1,i,none⟩) (by show w.1.size+1<_;omega)).trans (hF3.frozen (p:=⟨w.1.size+1,i,none⟩) (by show w.1.size+1<_;omega) (Or.inl (by show w.1.size+1<_;omega)))).trans (F1_3 i)
 have F2_4:∀ i,w4.frozen? ⟨w.1.size+1+1,i,none⟩=false:=fun i=>((hx4.frozen (p:=⟨w.1.size+1+1,i,none⟩) (by show w.1.size+1+1<_;omega)).trans (by simp only [World.frozen?_setCell])).trans (F2_3 i)
 have S1_4:=hid ((S1_3.out.fr hF3 (Or.inr (by omega))).fr hG4 (Or.inr (zle _)))
 have S2_4:=hid ((S2_3.out.fr hF3 (Or.inr (by omega))).fr hG4 (Or.inr (zle _)))
 have S3_4:=hid ((S3_3.out.fr hF3 (Or.inr (by omega))).fr hG4 (Or.inr (zle _)))
 have S4_4:=hid s4
 clear s4 PP3 OO3 RR3 hBW3 hF3 hG4 hx4 F1_3 F2_3 S1_3 S2_3 S3_3
 have PP4:Holds w4 w.1.size (rcC r A):=P4
 have OO4:Holds w4 (w.1.size+1+1) #[.int .i64 r.num,.int .i64 r.of,.bool r.up,.int .i64 r.sf.pr,.int .i64 r.sf.kn,.slice (some ⟨g1,0,none⟩) r.sf.n r.sf.n,.int .i64 r.dk.pr,.int .i64 r.dk.kn,.slice (some ⟨g2,0,none⟩) r.dk.n r.dk.n,.slice (some ⟨w2.1.size,0,none⟩) r.hn r.hn,.slice none 0 0,.bool false,.bool false,.int .i64 0,.slice none 0 0,.slice none 0 0,.slice none 0 0,.int .i64 0]:=O4
 have RR4:Holds w4 (w.1.size+1) #[.int .i64 0,.int .i64 0,.bool false,.int .i64 0,.int .i64 0,.slice none 0 0,.int .i64 0,.int .i64 0,.slice none 0 0,.slice none 0 0,.slice none 0 0,.bool false,.bool false,.int .i64 0,.slice none 0 0,.slice none 0 0,.slice none 0 0,.int .i64 0]:=R4
 have hBW4:Below w.1.size w ((((w4.setCell ⟨w.1.size+1+1,10,none⟩ (.slice (some ⟨w3.1.size,0,none⟩) r.wn r.wn)).setCell ⟨w.1.size+1+1,11,none⟩ (.bool r.ld)).setCell ⟨w.1.size+1+1,12,none⟩ (.bool r.tr)).setCell ⟨w.1.size+1+1,13,none⟩ (.int .i64 r.bal)):=((((hB4.setCell (p:=⟨w.1.size+1+1,10,none⟩) (by show w.1.size≤w.1.size+1+1;omega) (.slice (some ⟨w3.1.size,0,none⟩) r.wn r.wn)).setCell (p:=⟨w.1.size+1+1,11,none⟩) (by show w.1.size≤w.1.size+1+1;omega) (.bool r.ld)).setCell (p:=⟨w.1.size+1+1,12,none⟩) (by show w.1.size≤w.1.size+1+1;omega) (.bool r.tr)).setCell (p:=⟨w.1.size+1+1,13,none⟩) (by show w.1.size≤w.1.size+1+1;omega) (.int .i64 r.bal))
 have hF4:Fr (w.1.size+2) (w.1.size+3) w4 ((((w4.setCell ⟨w.1.size+1+1,10,none⟩ (.slice (some ⟨w3.1.size,0,none⟩) r.wn r.wn)).setCell ⟨w.1.size+1+1,11,none⟩ (.bool r.ld)).setCell ⟨w.1.size+1+1,12,none⟩ (.bool r.tr)).setCell ⟨w.1.size+1+1,13,none⟩ (.int .i64 r.bal)):=(Fr.setCell (Fr.setCell (Fr.setCell (Fr.setCell (Fr.refl (w.1.size+2) (w.1.size+3) w4) (p:=⟨w.1.size+1+1,10,none⟩) (by show w.1.size+2≤w.1.size+1+1;omega) (by show w.1.size+1+1<w.1.size+3;omega) (.slice (some ⟨w3.1.size,0,none⟩) r.wn r.wn)) (p:=⟨w.1.size+1+1,11,none⟩) (by show w.1.size+2≤w.1.size+1+1;omega) (by show w.1.size+1+1<w.1.size+3;omega) (.bool r.ld)) (p:=⟨w.1.size+1+1,12,none⟩) (by show w.1.size+2≤w.1.size+1+1;omega) (by show w.1.size+1+1<w.1.size+3;omega) (.bool r.tr)) (p:=⟨w.1.size+1+1,13,none⟩) (by show w.1.size+2≤w.1.size+1+1;omega) (by show w.1.size+1+1<w.1.size+3;omega) (.int .i64 r.bal))
 clear P4 O4 R4
 obtain ⟨p0,p1,p2,p3,p4,p5,p6,p7,p8,p9,p10,p11,p12,p13,p14,p15,p16,p17⟩:=Ze PP4
 obtain ⟨o0,o1,o2,o3,o4,o5,o6,o7,o8,o9,o10,o11,o12,o13,o14,o15,o16,o17⟩:=Ze OO4
 go_wp2_with fail
 refine (K9 r.yn r.ys A.ya A.yc _ lo hi (by simp only [World.size_setCell];have:=hB4.size;omega) (by have:=HM.out.yn;omega) (HI.out.below (B:=w.1.size) hBW4 hhi).ys).mono ?_
 clear p0 p1 p2 p3 p4 p5 p6 p7 p8 p9 p10 p11 p12 p13 p14 p15 p16 p17 o0 o1 o2 o3 o4 o5 o6 o7 o8 o9 o10 o11 o12 o13 o14 o15 o16 o17
 rintro e w5 ⟨g5,c5,rfl,s5,hb5⟩
 have hx5:Below w4.1.size ((((w4.setCell ⟨w.1.size+1+1,10,none⟩ (.slice (some ⟨w3.1.size,0,none⟩) r.wn r.wn)).setCell ⟨w.1.size+1+1,11,none⟩ (.bool r.ld)).setCell ⟨w.1.size+1+1,12,none⟩ (.bool r.tr)).setCell ⟨w.1.size+1+1,13,none⟩ (.int .i64 r.bal)) w5:=hb5.mono (by simp only [World.size_setCell];exact lrf _)
 have hG5:Fr 0 0 ((((w4.setCell ⟨w.1.size+1+1,10,none⟩ (.slice (some ⟨w3.1.size,0,none⟩) r.wn r.wn)).setCell ⟨w.1.size+1+1,11,none⟩ (.bool r.ld)).setCell ⟨w.1.size+1+1,12,none⟩ (.bool r.tr)).setCell ⟨w.1.size+1+1,13,none⟩ (.int .i64 r.bal)) w5:=Fr.of_below hb5
 clear hb5
 simp only [World.size_setCell] at s5
 have hB5:Below w.1.size w w5:=hBW4.trans (hx5.mono (by omega))
 have hy5:w4.1.size≤w5.1.size:=by have:=hx5.size;simp only [World.size_setCell] at this;exact this
 have hz5:w.1.size+1+1<w5.1.size:=by omega
 have P5:Holds w5 w.1.size (rcC r A):=(PP4.fr hF4 (by omega) (Or.inl (by omega))).below hx5 (by omega)
 have R5:Holds w5 (w.1.size+1) #[.int .i64 0,.int .i64 0,.bool false,.int .i64 0,.int .i64 0,.slice none 0 0,.int .i64 0,.int .i64 0,.slice none 0 0,.slice none 0 0,.slice none 0 0,.bool false,.bool false,.int .i64 0,.slice none 0 0,.slice none 0 0,.slice none 0 0,.int .i64 0]:=(RR4.fr hF4 (by omega) (Or.inl (by omega))).below hx5 (by omega)
 have O5:Holds w5 (w.1.size+1+1) #[.int .i64 r.num,.int .i64 r.of,.bool r.up,.int .i64 r.sf.pr,.int .i64 r.sf.kn,.slice (some ⟨g1,0,none⟩) r.sf.n r.sf.n,.int .i64 r.dk.pr,.int .i64 r.dk.kn,.slice (some ⟨g2,0,none⟩) r.dk.n r.dk.n,.slice (some ⟨w2.1.size,0,none⟩) r.hn r.hn,.slice (some ⟨w3.1.size,0,none⟩) r.wn r.wn,.bool r.ld,.bool r.tr,.int .i64 r.bal,.slice none 0 0,.slice none 0 0,.slice none 0 0,.int .i64 0]:=Holds.below (Xx (ZN (Zs (Um OO4 (.slice (some ⟨w3.1.size,0,none⟩) r.wn r.wn)) (.bool r.ld)) (.bool r.tr)) (.int .i64 r.bal)) hx5 (by omega)
 have F1_5:∀ i,w5.frozen? ⟨w.1.size+1,i,none⟩=false:=fun i=>((hx5.frozen (p:=⟨w.1.size+1,i,none⟩) (by show w.1.size+1<_;omega)).trans (hF4.frozen (p:=⟨w.1.size+1,i,none⟩) (by show w.1.size+1<_;omega) (Or.inl (by show w.1.size+1<_;omega)))).trans (F1_4 i)
 have F2_5:∀ i,w5.frozen? ⟨w.1.size+1+1,i,none⟩=false:=fun i=>((hx5.frozen (p:=⟨w.1.size+1+1,i,none⟩) (by show w.1.size+1+1<_;omega)).trans (by simp only [World.frozen?_setCell])).trans (F2_4 i)
 have S1_5:=hid ((S1_4.out.fr hF4 (Or.inr (by omega))).fr hG5 (Or.inr (zle _)))
 have S2_5:=hid ((S2_4.out.fr hF4 (Or.inr (by omega))).fr hG5 (Or.inr (zle _)))
 have S3_5:=hid ((S3_4.out.fr hF4 (Or.inr (by omega))).fr hG5 (Or.inr (zle _)))
 have S4_5:=hid ((S4_4.out.fr hF4 (by omega) (Or.inr (by omega))).fr hG5 (by simp only [World.size_setCell];omega) (Or.inr (zle _)))
 have S5_5:=hid s5
 clear s5 PP4 OO4 RR4 hBW4 hF4 hG5 hx5 F1_4 F2_4 S1_4 S2_4 S3_4 S4_4
 have PP5:Holds w5 w.1.size (rcC r A):=P5
 have OO5:Holds w5 (w.1.size+1+1) #[.int .i64 r.num,.int .i64 r.of,.bool r.up,.int .i64 r.sf.pr,.int .i64 r.sf.kn,.slice (some ⟨g1,0,none⟩) r.sf.n r.sf.n,.int .i64 r.dk.pr,.int .i64 r.dk.kn,.slice (some ⟨g2,0,none⟩) r.dk.n r.dk.n,.slice (some ⟨w2.1.size,0,none⟩) r.hn r.hn,.slice (some ⟨w3.1.size,0,none⟩) r.wn r.wn,.bool r.ld,.bool r.tr,.int .i64 r.bal,.slice none 0 0,.slice none 0 0,.slice none 0 0,.int .i64 0]:=O5
 have RR5:Holds w5 (w.1.size+1) #[.int .i64 0,.int .i64 0,.bool false,.int .i64 0,.int .i64 0,.slice none 0 0,.int .i64 0,.int .i64 0,.slice none 0 0,.slice none 0 0,.slice none 0 0,.bool false,.bool false,.int .i64 0,.slice none 0 0,.slice none 0 0,.slice none 0 0,.int .i64 0]:=R5
 have hBW5:Below w.1.size w (w5.setCell ⟨w.1.size+1+1,14,none⟩ (.slice g5 r.yn c5)):=(hB5.setCell (p:=⟨w.1.size+1+1,14,none⟩) (by show w.1.size≤w.1.size+1+1;omega) (.slice g5 r.yn c5))
 have hF5:Fr (w.1.size+2) (w.1.size+3) w5 (w5.setCell ⟨w.1.size+1+1,14,none⟩ (.slice g5 r.yn c5)):=(Fr.setCell (Fr.refl (w.1.size+2) (w.1.size+3) w5) (p:=⟨w.1.size+1+1,14,none⟩) (by show w.1.size+2≤w.1.size+1+1;omega) (by show w.1.size+1+1<w.1.size+3;omega) (.slice g5 r.yn c5))
 clear P5 O5 R5
 obtain ⟨p0,p1,p2,p3,p4,p5,p6,p7,p8,p9,p10,p11,p12,p13,p14,p15,p16,p17⟩:=Ze PP5
 obtain ⟨o0,o1,o2,o3,o4,o5,o6,o7,o8,o9,o10,o11,o12,o13,o14,o15,o16,o17⟩:=Ze OO5
 go_wp2_with fail
 refine (Ko r.bn r.bs A.ba A.bc _ lo hi (by simp only [World.size_setCell];have:=hB5.size;omega) (by have:=HM.out.bn;omega) (HI.out.below (B:=w.1.size) hBW5 hhi).bs).mono ?_
 clear p0 p1 p2 p3 p4 p5 p6 p7 p8 p9 p10 p11 p12 p13 p14 p15 p16 p17 o0 o1 o2 o3 o4 o5 o6 o7 o8 o9 o10 o11 o12 o13 o14 o15 o16 o17
 rintro e w6 ⟨rfl,s6,hb6⟩
 have hx6:Below w5.1.size (w5.setCell ⟨w.1.size+1+1,14,none⟩ (.slice g5 r.yn c5)) w6:=hb6.mono (by simp only [World.size_setCell];exact lrf _)
 have hG6:Fr 0 0 (w5.setCell ⟨w.1.size+1+1,14,none⟩ (.slice g5 r.yn c5)) w6:=Fr.of_below hb6
 clear hb6
 simp only [World.size_setCell] at s6
 have hB6:Below w.1.size w w6:=hBW5.trans (hx6.mono (by omega))
 have hy6:w5.1.size≤w6.1.size:=by have:=hx6.size;simp only [World.size_setCell] at this;exact this
 have hz6:w.1.size+1+1<w6.1.size:=by omega
 have P6:Holds w6 w.1.size (rcC r A):=(PP5.fr hF5 (by omega) (Or.inl (by omega))).below hx6 (by omega)
 have R6:Holds w6 (w.1.size+1) #[.int .i64 0,.int .i64 0,.bool false,.int .i64 0,.int .i64 0,.slice none 0 0,.int .i64 0,.int .i64 0,.slice none 0 0,.slice none 0 0,.slice none 0 0,.bool false,.bool false,.int .i64 0,.slice none 0 0,.slice none 0 0,.slice none 0 0,.int .i64 0]:=(RR5.fr hF5 (by omega) (Or.inl (by omega))).below hx6 (by omega)
 have O6:Holds w6 (w.1.size+1+1) #[.int .i64 r.num,.int .i64 r.of,.bool r.up,.int .i64 r.sf.pr,.int .i64 r.sf.kn,.slice (some ⟨g1,0,none⟩) r.sf.n r.sf.n,.int .i64 r.dk.pr,.int .i64 r.dk.kn,.slice (some ⟨g2,0,none⟩) r.dk.n r.dk.n,.slice (some ⟨w2.1.size,0,none⟩) r.hn r.hn,.slice (some ⟨w3.1.size,0,none⟩) r.wn r.wn,.bool r.ld,.bool r.tr,.int .i64 r.bal,.slice g5 r.yn c5,.slice none 0 0,.slice none 0 0,.int .i64 0]:=Holds.below (YU OO5 (.slice g5 r.yn c5)) hx6 (by omega)
 have F1_6:∀ i,w6.frozen? ⟨w.1.size+1,i,none⟩=false:=fun i=>((hx6.frozen (p:=⟨w.1.size+1,i,none⟩) (by show w.1.size+1<_;omega)).trans (hF5.frozen (p:=⟨w.1.size+1,i,none⟩) (by show w.1.size+1<_;omega) (Or.inl (by show w.1.size+1<_;omega)))).trans (F1_5 i)
 have F2_6:∀ i,w6.frozen? ⟨w.1.size+1+1,i,none⟩=false:=fun i=>((hx6.frozen (p:=⟨w.1.size+1+1,i,none⟩) (by show w.1.size+1+1<_;omega)).trans (by simp only [World.frozen?_setCell])).trans (F2_5 i)
 have S1_6:=hid ((S1_5.out.fr hF5 (Or.inr (by omega))).fr hG6 (Or.inr (zle _)))
 have S2_6:=hid ((S2_5.out.fr hF5 (Or.inr (by omega))).fr hG6 (Or.inr (zle _)))
 have S3_6:=hid ((S3_5.out.fr hF5 (Or.inr (by omega))).fr hG6 (Or.inr (zle _)))
 have S4_6:=hid ((S4_5.out.fr hF5 (by omega) (Or.inr (by omega))).fr hG6 (by simp only [World.size_setCell];omega) (Or.inr (zle _)))
 have S5_6:=hid ((S5_5.out.fr hF5 (by omega) (Or.inr (by omega))).fr hG6 (by simp only [World.size_setCell];omega) (Or.inr (zle _)))
 have S6_6:=hid s6
 have S6_L:w5.1.size<w6.1.size:=s6.room.lt
 clear s6 PP5 OO5 RR5 hBW5 hF5 hG6 hx6 F1_5 F2_5 S1_5 S2_5 S3_5 S4_5 S5_5
 have PP6:Holds w6 w.1.size (rcC r A):=P6
 have OO6:Holds w6 (w.1.size+1+1) #[.int .i64 r.num,.int .i64 r.of,.bool r.up,.int .i64 r.sf.pr,.int .i64 r.sf.kn,.slice (some ⟨g1,0,none⟩) r.sf.n r.sf.n,.int .i64 r.dk.pr,.int .i64 r.dk.kn,.slice (some ⟨g2,0,none⟩) r.dk.n r.dk.n,.slice (some ⟨w2.1.size,0,none⟩) r.hn r.hn,.slice (some ⟨w3.1.size,0,none⟩) r.wn r.wn,.bool r.ld,.bool r.tr,.int .i64 r.bal,.slice g5 r.yn c5,.slice none 0 0,.slice none 0 0,.int .i64 0]:=O6
 have RR6:Holds w6 (w.1.size+1) #[.int .i64 0,.int .i64 0,.bool false,.int .i64 0,.int .i64 0,.slice none 0 0,.int .i64 0,.int .i64 0,.slice none 0 0,.slice none 0 0,.slice none 0 0,.bool false,.bool false,.int .i64 0,.slice none 0 0,.slice none 0 0,.slice none 0 0,.int .i64 0]:=R6
 have hBW6:Below w.1.size w (w6.setCell ⟨w.1.size+1+1,15,none⟩ (.slice (some ⟨w5.1.size,0,none⟩) r.bn r.bn)):=(hB6.setCell (p:=⟨w.1.size+1+1,15,none⟩) (by show w.1.size≤w.1.size+1+1;omega) (.slice (some ⟨w5.1.size,0,none⟩) r.bn r.bn))
 have hF6:Fr (w.1.size+2) (w.1.size+3) w6 (w6.setCell ⟨w.1.size+1+1,15,none⟩ (.slice (some ⟨w5.1.size,0,none⟩) r.bn r.bn)):=(Fr.setCell (Fr.refl (w.1.size+2) (w.1.size+3) w6) (p:=⟨w.1.size+1+1,15,none⟩) (by show w.1.size+2≤w.1.size+1+1;omega) (by show w.1.size+1+1<w.1.size+3;omega) (.slice (some ⟨w5.1.size,0,none⟩) r.bn r.bn))
 clear P6 O6 R6
 obtain ⟨p0,p1,p2,p3,p4,p5,p6,p7,p8,p9,p10,p11,p12,p13,p14,p15,p16,p17⟩:=Ze PP6
 obtain ⟨o0,o1,o2,o3,o4,o5,o6,o7,o8,o9,o10,o11,o12,o13,o14,o15,o16,o17⟩:=Ze OO6
 go_wp2_with fail
 refine (toAks_any r.an r.as_ A.aa A.ac _ lo hi (by simp only [World.size_setCell];have:=hB6.size;omega) HM.out.an HM.out.as_ (HI.out.below (B:=w.1.size) hBW6 hhi).as_).mono ?_
 clear p0 p1 p2 p3 p4 p5 p6 p7 p8 p9 p10 p11 p12 p13 p14 p15 p16 p17 o0 o1 o2 o3 o4 o5 o6 o7 o8 o9 o10 o11 o12 o13 o14 o15 o16 o17
 rintro e w7 ⟨r7,rfl,s7,hb7⟩
 have hx7:Below w6.1.size (w6.setCell ⟨w.1.size+1+1,15,none⟩ (.slice (some ⟨w5.1.size,0,none⟩) r.bn r.bn)) w7:=hb7.mono (by simp only [World.size_setCell];exact lrf _)
 have hG7:Fr 0 0 (w6.setCell ⟨w.1.size+1+1,15,none⟩ (.slice (some ⟨w5.1.size,0,none⟩) r.bn r.bn)) w7:=Fr.of_below hb7
 clear hb7
 simp only [World.size_setCell] at s7
 have hB7:Below w.1.size w w7:=hBW6.trans (hx7.mono (by omega))
 have hy7:w6.1.size≤w7.1.size:=by have:=hx7.size;simp only [World.size_setCell] at this;exact this
 have hz7:w.1.size+1+1<w7.1.size:=by omega
 have P7:Holds w7 w.1.size (rcC r A):=(PP6.fr hF6 (by omega) (Or.inl (by omega))).below hx7 (by omega)
 have R7:Holds w7 (w.1.size+1) #[.int .i64 0,.int .i64 0,.bool false,.int .i64 0,.int .i64 0,.slice none 0 0,.int .i64 0,.int .i64 0,.slice none 0 0,.slice none 0 0,.slice none 0 0,.bool false,.bool false,.int .i64 0,.slice none 0 0,.slice none 0 0,.slice none 0 0,.int .i64 0]:=(RR6.fr hF6 (by omega) (Or.inl (by omega))).below hx7 (by omega)
 have O7:Holds w7 (w.1.size+1+1) #[.int .i64 r.num,.int .i64 r.of,.bool r.up,.int .i64 r.sf.pr,.int .i64 r.sf.kn,.slice (some ⟨g1,0,none⟩) r.sf.n r.sf.n,.int .i64 r.dk.pr,.int .i64 r.dk.kn,.slice (some ⟨g2,0,none⟩) r.dk.n r.dk.n,.slice (some ⟨w2.1.size,0,none⟩) r.hn r.hn,.slice (some ⟨w3.1.size,0,none⟩) r.wn r.wn,.bool r.ld,.bool r.tr,.int .i64 r.bal,.slice g5 r.yn c5,.slice (some ⟨w5.1.size,0,none⟩) r.bn r.bn,.slice none 0 0,.int .i64 0]:=Holds.below (XI OO6 (.slice (some ⟨w5.1.size,0,none⟩) r.bn r.bn)) hx7 (by omega)
 have F1_7:∀ i,w7.frozen? ⟨w.1.size+1,i,none⟩=false:=fun i=>((hx7.frozen (p:=⟨w.1.size+1,i,none⟩) (by show w.1.size+1<_;omega)).trans (hF6.frozen (p:=⟨w.1.size+1,i,none⟩) (by show w.1.size+1<_;omega) (Or.inl (by show w.1.size+1<_;omega)))).trans (F1_6 i)
 have F2_7:∀ i,w7.frozen? ⟨w.1.size+1+1,i,none⟩=false:=fun i=>((hx7.frozen (p:=⟨w.1.size+1+1,i,none⟩) (by show w.1.size+1+1<_;omega)).trans (by simp only [World.frozen?_setCell])).trans (F2_6 i)
 have S1_7:=hid ((S1_6.out.fr hF6 (Or.inr (by omega))).fr hG7 (Or.inr (zle _)))
 have S2_7:=hid ((S2_6.out.fr hF6 (Or.inr (by omega))).fr hG7 (Or.inr (zle _)))
 have S3_7:=hid ((S3_6.out.fr hF6 (Or.inr (by omega))).fr hG7 (Or.inr (zle _)))
 have S4_7:=hid ((S4_6.out.fr hF6 (by omega) (Or.inr (by omega))).fr hG7 (by simp only [World.size_setCell];omega) (Or.inr (zle _)))
 have S5_7:=hid ((S5_6.out.fr hF6 (by omega) (Or.inr (by omega))).fr hG7 (by simp only [World.size_setCell];omega) (Or.inr (zle _)))
 have S6_7:=hid ((S6_6.out.fr hF6 (Or.inr (by omega))).fr hG7 (Or.inr (zle _)))
 have S7_7:=hid s7
 clear s7 PP6 OO6 RR6 hBW6 hF6 hG7 hx7 F1_6 F2_6 S1_6 S2_6 S3_6 S4_6 S5_6 S6_6
 have OO7:Holds w7 (w.1.size+1+1) #[.int .i64 r.num,.int .i64 r.of,.bool r.up,.int .i64 r.sf.pr,.int .i64 r.sf.kn,.slice (some ⟨g1,0,none⟩) r.sf.n r.sf.n,.int .i64 r.dk.pr,.int .i64 r.dk.kn,.slice (some ⟨g2,0,none⟩) r.dk.n r.dk.n,.slice (some ⟨w2.1.size,0,none⟩) r.hn r.hn,.slice (some ⟨w3.1.size,0,none⟩) r.wn r.wn,.bool r.ld,.bool r.tr,.int .i64 r.bal,.slice g5 r.yn c5,.slice (some ⟨w5.1.size,0,none⟩) r.bn r.bn,.slice none 0 0,.int .i64 0]:=O7
 have RR7:Holds w7 (w.1.size+1) #[.int .i64 0,.int .i64 0,.bool false,.int .i64 0,.int .i64 0,.slice none 0 0,.int .i64 0,.int .i64 0,.slice none 0 0,.slice none 0 0,.slice none 0 0,.bool false,.bool false,.int .i64 0,.slice none 0 0,.slice none 0 0,.slice none 0 0,.int .i64 0]:=R7
 have PP7:Holds w7 w.1.size (rcC r A):=P7
 clear P7 O7 R7
 obtain ⟨p0,p1,p2,p3,p4,p5,p6,p7,p8,p9,p10,p11,p12,p13,p14,p15,p16,p17⟩:=Ze PP7
 obtain ⟨o0,o1,o2,o3,o4,o5,o6,o7,o8,o9,o10,o11,o12,o13,o14,o15,o16,o17⟩:=Ze OO7
 obtain ⟨u0,u1,u2,u3,u4,u5,u6,u7,u8,u9,u10,u11,u12,u13,u14,u15,u16,u17⟩:=Ze RR7
 have key:∀ W:World,Fr w.1.size (w.1.size+3) w7 W→W.1.size=w7.1.size→∃ A' m1 m2 m3 m4 m5 m6,Ending.returned (rcV r ⟨some ⟨g1,0,none⟩,some ⟨g2,0,none⟩,some ⟨w2.1.size,0,none⟩,some ⟨w3.1.size,0,none⟩,g5,some ⟨w5.1.size,0,none⟩,some ⟨w6.1.size,0,none⟩,r.sf.n,r.dk.n,r.hn,r.wn,c5,r.bn,r.an⟩)=.returned (rcV r A')∧ZX r A'∧RcOwnAt W r A' w.1.size m1 m2 m3 m4 m5 m6 W.1.size∧Below w.1.size w W:=fun W hW hsz=>
  ⟨⟨some ⟨g1,0,none⟩,some ⟨g2,0,none⟩,some ⟨w2.1.size,0,none⟩,some ⟨w3.1.size,0,none⟩,g5,some ⟨w5.1.size,0,none⟩,some ⟨w6.1.size,0,none⟩,r.sf.n,r.dk.n,r.hn,r.wn,c5,r.bn,r.an⟩,w1.1.size,w2.1.size,w3.1.size,w4.1.size,w5.1.size,w6.1.size,rfl,⟨⟨_,rfl⟩,⟨_,rfl⟩,⟨_,rfl⟩,rfl,rfl,rfl⟩,
   ⟨(S1_7.out.fr hW (Or.inr (by omega))).mono (by omega) (lrf _),S2_7.out.fr hW (Or.inr (by omega)),(MssOwnIn.fr ⟨_,_,_,rfl,lrf _,lrf _,S3_7.out⟩ hW (Or.inr (by omega))),S4_7.out.fr hW (by omega) (Or.inr (by omega)),S5_7.out.fr hW (by omega) (Or.inr (by omega)),SlsOwn.fr ⟨_,rfl,lrf _,S6_L,S6_7.out⟩ hW (Or.inr (by omega)),by rw [hsz];exact (AksOwnIn.fr ⟨_,_,_,rfl,lrf _,lrf _,S7_7.out⟩ hW (Or.inr (by omega))),by omega,by omega,by omega,by omega,by omega,by omega,by omega,lrf _⟩,
   hB7.trans (hW.below (lrf _) hB7.size)⟩
 have KEY:=hid key
 clear key S1_7 S2_7 S3_7 S4_7 S5_7 S6_7 S7_7 S6_L
 have hE:Holds ((w7.setCell ⟨w.1.size+1+1,16,none⟩ (.slice (some ⟨w6.1.size,0,none⟩) r.an r.an)).setCell ⟨w.1.size+1+1,17,none⟩ (.int .i64 r.hd)) (w.1.size+1+1) #[.int .i64 r.num,.int .i64 r.of,.bool r.up,.int .i64 r.sf.pr,.int .i64 r.sf.kn,.slice (some ⟨g1,0,none⟩) r.sf.n r.sf.n,.int .i64 r.dk.pr,.int .i64 r.dk.kn,.slice (some ⟨g2,0,none⟩) r.dk.n r.dk.n,.slice (some ⟨w2.1.size,0,none⟩) r.hn r.hn,.slice (some ⟨w3.1.size,0,none⟩) r.wn r.wn,.bool r.ld,.bool r.tr,.int .i64 r.bal,.slice g5 r.yn c5,.slice (some ⟨w5.1.size,0,none⟩) r.bn r.bn,.slice (some ⟨w6.1.size,0,none⟩) r.an r.an,.int .i64 r.hd]:=(X0 (JM OO7 (.slice (some ⟨w6.1.size,0,none⟩) r.an r.an)) (.int .i64 r.hd))
 have hR:((w7.setCell ⟨w.1.size+1+1,16,none⟩ (.slice (some ⟨w6.1.size,0,none⟩) r.an r.an)).setCell ⟨w.1.size+1+1,17,none⟩ (.int .i64 r.hd)).there (w.1.size+1) 0 18:=Holds.there (c:=#[.int .i64 0,.int .i64 0,.bool false,.int .i64 0,.int .i64 0,.slice none 0 0,.int .i64 0,.int .i64 0,.slice none 0 0,.slice none 0 0,.slice none 0 0,.bool false,.bool false,.int .i64 0,.slice none 0 0,.slice none 0 0,.slice none 0 0,.int .i64 0]) (RR7.fr (Fr.setCell (Fr.setCell (Fr.refl (w.1.size+2) (w.1.size+3) w7) (p:=⟨w.1.size+1+1,16,none⟩) (by show w.1.size+2≤w.1.size+1+1;omega) (by show w.1.size+1+1<w.1.size+3;omega) (.slice (some ⟨w6.1.size,0,none⟩) r.an r.an)) (p:=⟨w.1.size+1+1,17,none⟩) (by show w.1.size+2≤w.1.size+1+1;omega) (by show w.1.size+1+1<w.1.size+3;omega) (.int .i64 r.hd)) (by omega) (Or.inl (by omega))) (fun i=>by simp only [World.frozen?_setCell];exact F1_7 i)
 have hEr:=Holds.range (cs:=[.int .i64 r.num,.int .i64 r.of,.bool r.up,.int .i64 r.sf.pr,.int .i64 r.sf.kn,.slice (some ⟨g1,0,none⟩) r.sf.n r.sf.n,.int .i64 r.dk.pr,.int .i64 r.dk.kn,.slice (some ⟨g2,0,none⟩) r.dk.n r.dk.n,.slice (some ⟨w2.1.size,0,none⟩) r.hn r.hn,.slice (some ⟨w3.1.size,0,none⟩) r.wn r.wn,.bool r.ld,.bool r.tr,.int .i64 r.bal,.slice g5 r.yn c5,.slice (some ⟨w5.1.size,0,none⟩) r.bn r.bn,.slice (some ⟨w6.1.size,0,none⟩) r.an r.an,.int .i64 r.hd]) hE
 have HER:=hid hEr
 have HRT:=hid hR
 clear hE hR hEr OO7 RR7 PP7
 go_wp2_with (first|((with_reducible show wpList _ _ _ (⟨some 53,Op.load 38 _,_,_,_,_⟩::_) _ _);refine wpList_load_mid rfl 38 _ rfl (w.1.size+1+1) 0 rfl [.int .i64 r.num,.int .i64 r.of,.bool r.up,.int .i64 r.sf.pr,.int .i64 r.sf.kn,.slice (some ⟨g1,0,none⟩) r.sf.n r.sf.n,.int .i64 r.dk.pr,.int .i64 r.dk.kn,.slice (some ⟨g2,0,none⟩) r.dk.n r.dk.n,.slice (some ⟨w2.1.size,0,none⟩) r.hn r.hn,.slice (some ⟨w3.1.size,0,none⟩) r.wn r.wn,.bool r.ld,.bool r.tr,.int .i64 r.bal,.slice g5 r.yn c5,.slice (some ⟨w5.1.size,0,none⟩) r.bn r.bn,.slice (some ⟨w6.1.size,0,none⟩) r.an r.an,.int .i64 r.hd] _ HER.out Tryz.underlying38 rfl Tryz.sz38 ?_)|((with_reducible show wpList _ _ _ (⟨none,Op.store 38 _ (.tmp 53),_,_,_,_⟩::_) _ _);refine XJ rfl 38 _ _ rfl (w.1.size+1) [.int .i64 r.num,.int .i64 r.of,.bool r.up,.int .i64 r.sf.pr,.int .i64 r.sf.kn,.slice (some ⟨g1,0,none⟩) r.sf.n r.sf.n,.int .i64 r.dk.pr,.int .i64 r.dk.kn,.slice (some ⟨g2,0,none⟩) r.dk.n r.dk.n,.slice (some ⟨w2.1.size,0,none⟩) r.hn r.hn,.slice (some ⟨w3.1.size,0,none⟩) r.wn r.wn,.bool r.ld,.bool r.tr,.int .i64 r.bal,.slice g5 r.yn c5,.slice (some ⟨w5.1.size,0,none⟩) r.bn r.bn,.slice (some ⟨w6.1.size,0,none⟩) r.an r.an,.int .i64 r.hd] rfl rfl HRT.out Tryz.sz38 (by simp [Value.oneCell']) ?_;intro W2 hr2 hf2 hs2;have HR2:=hid hr2;have HF2:=hid hf2;have HS2:=hid hs2;clear hr2 hf2 hs2 HER HRT))
 refine bodyPost_ret (v:=rcV r ⟨some ⟨g1,0,none⟩,some ⟨g2,0,none⟩,some ⟨w2.1.size,0,none⟩,some ⟨w3.1.size,0,none⟩,g5,some ⟨w5.1.size,0,none⟩,some ⟨w6.1.size,0,none⟩,r.sf.n,r.dk.n,r.hn,r.wn,c5,r.bn,r.an⟩) (Zv rfl _ _ (w.1.size+1) [.int .i64 r.num,.int .i64 r.of,.bool r.up,.int .i64 r.sf.pr,.int .i64 r.sf.kn,.slice (some ⟨g1,0,none⟩) r.sf.n r.sf.n,.int .i64 r.dk.pr,.int .i64 r.dk.kn,.slice (some ⟨g2,0,none⟩) r.dk.n r.dk.n,.slice (some ⟨w2.1.size,0,none⟩) r.hn r.hn,.slice (some ⟨w3.1.size,0,none⟩) r.wn r.wn,.bool r.ld,.bool r.tr,.int .i64 r.bal,.slice g5 r.yn c5,.slice (some ⟨w5.1.size,0,none⟩) r.bn r.bn,.slice (some ⟨w6.1.size,0,none⟩) r.an r.an,.int .i64 r.hd] _ rfl HR2.out Tryz.underlying38 rfl Tryz.sz38) rfl (KEY.out _ ?_ (by rw [HS2.out];simp only [World.size_setCell]))
 exact (Fr.trans (b:=((w7.setCell ⟨w.1.size+1+1,16,none⟩ (.slice (some ⟨w6.1.size,0,none⟩) r.an r.an)).setCell ⟨w.1.size+1+1,17,none⟩ (.int .i64 r.hd))) (Fr.setCell (Fr.setCell (Fr.refl w.1.size (w.1.size+3) w7) (p:=⟨w.1.size+1+1,16,none⟩) (by show w.1.size≤w.1.size+1+1;omega) (by show w.1.size+1+1<w.1.size+3;omega) (.slice (some ⟨w6.1.size,0,none⟩) r.an r.an)) (p:=⟨w.1.size+1+1,17,none⟩) (by show w.1.size≤w.1.size+1+1;omega) (by show w.1.size+1+1<w.1.size+3;omega) (.int .i64 r.hd)) (Fr.widen HF2.out (by omega) (by omega)))
theorem box3 {w w1:World} {v0 v1 v2:Value} {t:TypeId} (hb:Below (w.alloc (.cells #[v0,v1,v2] t)).1.size (w.alloc (.cells #[v0,v1,v2] t)) w1) :
  w1.cell? ⟨w.1.size,0,none⟩=some v0∧w1.cell? ⟨w.1.size,1,none⟩=some v1∧w1.cell? ⟨w.1.size,2,none⟩=some v2:=⟨Kk hb 0,Kk hb 1,Kk hb 2⟩
theorem SlsIn.front {w:World} {lo hi:Nat} {ad:Option Addr} {n k:Nat} {x:Nat→Sl} (h:SlsIn w lo hi ad n x) (hk:k≤n):SlsIn w lo hi ad k x:=fun i hi'=>h i (by omega)
theorem apS0 {P:Prop} (h:P:=by
  go_enter Tryz.func90,Tryz.ntmps90
  go_wp2_with (first|(go_at_call 93;refine (Zu _ _ _ _).mono ?_;rintro e w1 ⟨rfl,rfl⟩;first|rw [h1]|rw [h4])|(go_at_call 95;refine hS.mono ?_;rintro e w1 ⟨rfl,hb1⟩;obtain ⟨p0,p1,p2⟩:=box3 hb1;have hz1:=hb1.size;simp only [World.size_alloc] at hz1)|(go_at_call 132;refine (held_any d _ cap _ lo hi (by omega) ⟨f1,f2⟩ (hc1.below hb1 (by simp;omega))).mono ?_;rintro e w2 ⟨rfl,hb2⟩;rw [h3];have hz2:=hb2.size;have hb12:=hb1.trans (hb2.mono hb1.size);clear p0 p1 p2 hb1 hb2;obtain ⟨p0,p1,p2⟩:=box3 hb12))
  go_ret
  exact ⟨Zh HB.out.symm,(Zb _ _).trans (hb12.mono (by simp))⟩):P:=h
theorem Xp (d:Dk) (g o cap:Nat) (w:World) (lo hi:Nat) (hhi:hi≤w.1.size) (hf:Uu d) (hcap:d.n≤cap) (hc:SlsIn w lo hi (some ⟨g,o,none⟩) d.n d.s) :
  Calls Tryz.prog 90 #[dkV d (some ⟨g,o,none⟩) cap] w fun e w'=>e=.returned (.bool (dkB d))∧Below w.1.size w w':=by
 obtain ⟨b1,h1⟩:∃ b,inB d.pr 0 1000000=b:=⟨_,rfl⟩
 obtain ⟨b2,h2⟩:∃ b,slsB d.n d.s=b:=⟨_,rfl⟩
 obtain ⟨b3,h3⟩:∃ b,JP d=b:=⟨_,rfl⟩
 obtain ⟨b4,h4⟩:∃ b,inB d.kn 0 d.n=b:=⟨_,rfl⟩
 obtain ⟨b5,h5⟩:∃ b,XF d.s d.kn.toNat=b:=⟨_,rfl⟩
 have HB:=hid (show dkB d=(b1&&(b2&&(b3&&(b4&&b5)))) by rw [←h1,←h2,←h3,←h4,←h5];rfl)
 have hc1:=hc.below (Zb w (.cells #[.int .i64 d.pr,.int .i64 d.kn,.slice (some ⟨g,o,none⟩) d.n cap] 34)) hhi
 obtain ⟨f1,f2⟩:=hf
 clear hc
 cases b1
 ·go_enter Tryz.func90,Tryz.ntmps90
  go_wp2_with (first|(go_at_call 93;refine (Zu _ _ _ _).mono ?_;rintro e w1 ⟨rfl,rfl⟩;first|rw [h1]|rw [h4]))
  go_ret
  exact ⟨Zh HB.out.symm,Zb _ _⟩
 have hS:=XA d.n d.s _ cap _ lo hi (by simp;omega) f1 f2 hc1
 rw [h2] at hS
 cases b2
 ·go_enter Tryz.func90,Tryz.ntmps90
  go_wp2_with (first|(go_at_call 93;refine (Zu _ _ _ _).mono ?_;rintro e w1 ⟨rfl,rfl⟩;first|rw [h1]|rw [h4])|(go_at_call 95;refine hS.mono ?_;rintro e w1 ⟨rfl,hb1⟩;obtain ⟨p0,p1,p2⟩:=box3 hb1;have hz1:=hb1.size;simp only [World.size_alloc] at hz1))
  go_ret
  exact ⟨Zh HB.out.symm,(Zb _ _).trans (hb1.mono (by simp))⟩
 cases b3
 ·exact apS0
 cases b4
 ·exact apS0
 obtain ⟨pr,kn,n,s⟩:=d
 dsimp only at *
 obtain ⟨k4,k5⟩:=Yj h4
 obtain ⟨k,rfl⟩:∃ k:Nat,kn=k:=⟨kn.toNat,by omega⟩
 simp only [Int.toNat_natCast] at h5
 have hkn:k≤n:=by omega
 show Calls Tryz.prog 90 #[.agg #[.int .i64 pr,.int .i64 k,.slice (some ⟨g,o,none⟩) n cap]] w _
 go_enter Tryz.func90,Tryz.ntmps90
 go_wp2_with (first|(go_at_call 93;refine (Zu _ _ _ _).mono ?_;rintro e w1 ⟨rfl,rfl⟩;first|rw [h1]|rw [h4])|(go_at_call 95;refine hS.mono ?_;rintro e w1 ⟨rfl,hb1⟩;obtain ⟨p0,p1,p2⟩:=box3 hb1;have hz1:=hb1.size;simp only [World.size_alloc] at hz1)|(go_at_call 132;refine (held_any ⟨pr,k,n,s⟩ _ cap _ lo hi (by omega) ⟨f1,f2⟩ (hc1.below hb1 (by simp;omega))).mono ?_;rintro e w2 ⟨rfl,hb2⟩;rw [h3];have hz2:=hb2.size;have hb12:=hb1.trans (hb2.mono hb1.size);clear p0 p1 p2 hb1 hb2;obtain ⟨p0,p1,p2⟩:=box3 hb12)|(go_at_call 133;refine (allTaken_any k s _ cap _ lo hi (by omega) (by omega) ((hc1.below hb12 (by simp;omega)).front hkn)).mono ?_;rintro e w4 ⟨rfl,hb4⟩;rw [h5]))
 go_ret
 exact ⟨Zh HB.out.symm,(Zb _ _).trans ((hb12.trans (hb4.mono hb12.size)).mono (by simp))⟩
theorem slB_nn {x:Sl} (h:slB x=true):0≤x.bal:=by
 unfold slB at h
 rw [Bool.and_eq_true] at h
 exact (Yj h.1).1
def XG (d:Dk) (i:Nat):Bool:=decide ((d.s i).bal≤d.pr)&&(decide (d.kn≤i)||decide (0<(d.s i).bal))
theorem dkB_all {d:Dk} (h1:inB d.pr 0 1000000=true) (h2:slsB d.n d.s=true) (h4:inB d.kn 0 d.n=true):dkB d=YP (XG d) d.n:=by
 have hk:=Yj h4
 rw [dkB,h1,h2,h4]
 simp only [Bool.true_and]
 rw [Bool.eq_iff_iff,Bool.and_eq_true,JP,XF,allTo_iff,allTo_iff,allTo_iff]
 constructor
 ·rintro ⟨a,b⟩ i hi
  rw [XG,a i hi,Bool.true_and,Bool.or_eq_true,decide_eq_true_eq]
  by_cases e:d.kn≤i
  ·exact Or.inl e
  ·exact Or.inr (b i (by omega))
 ·intro a
  refine ⟨fun i hi=>?_,fun i hi=>?_⟩
  ·have:=a i hi
   rw [XG,Bool.and_eq_true] at this
   exact this.1
  ·have:=a i (by omega)
   rw [XG,Bool.and_eq_true,Bool.or_eq_true,decide_eq_true_eq,decide_eq_true_eq] at this
   rcases this.2 with h|h
   ·omega
   ·exact h
theorem apS1 {P:Prop} (h:P:=by
  go_wp2
  go_roundw
  case rel=>exact ⟨k+1,by omega,by go_num,⟨_,rfl⟩,fun j hj=>by
   by_cases e:j=k
   ·rw [e];exact HE.out
   ·exact hall.out j (by omega)⟩
  case measure=>simp [intOf];omega):P:=h
theorem JS (d:Dk) (ad:Option Addr) (cap:Nat) (w:World) (lo hi:Nat) (hhi:hi≤w.1.size) (hf:Uu d) (hc:SlsIn w lo hi ad d.n d.s) :
  Calls Tryz.prog 76 #[dkV d ad cap] w fun e w'=>e=.returned (.bool (dkB d))∧Below w.1.size w w':=by
 obtain ⟨b1,h1⟩:∃ b,inB d.pr 0 1000000=b:=⟨_,rfl⟩
 obtain ⟨b2,h2⟩:∃ b,slsB d.n d.s=b:=⟨_,rfl⟩
 obtain ⟨b4,h4⟩:∃ b,inB d.kn 0 d.n=b:=⟨_,rfl⟩
 have HB:=hid (show dkB d=(b1&&(b2&&(JP d&&(b4&&XF d.s d.kn.toNat)))) by rw [←h1,←h2,←h4];rfl)
 have hB0:=Zb w (.cells #[.int .i64 d.pr,.int .i64 d.kn,.slice ad d.n cap] 34)
 have hc1:=hc.below hB0 hhi
 obtain ⟨f1,f2⟩:=hf
 clear hc
 cases b1
 ·go_enter Tryz.func76,Tryz.ntmps76
  go_wp2_with (first|(go_at_call 75;refine (ZI _ _ _ _).mono ?_;rintro e w1 ⟨rfl,rfl⟩;first|rw [h1]|rw [h4]))
  go_ret
  exact ⟨Zh HB.out.symm,Zb _ _⟩
 have hS:=XS d.n d.s _ cap _ lo hi (by simp;omega) f1 f2 hc1
 rw [h2] at hS
 cases b2
 ·go_enter Tryz.func76,Tryz.ntmps76
  go_wp2_with (first|(go_at_call 75;refine (ZI _ _ _ _).mono ?_;rintro e w1 ⟨rfl,rfl⟩;first|rw [h1]|rw [h4])|(go_at_call 79;refine hS.mono ?_;rintro e w1 ⟨rfl,hb1⟩;obtain ⟨p0,p1,p2⟩:=box3 hb1;have hz1:=hb1.size;simp only [World.size_alloc] at hz1))
  go_ret
  exact ⟨Zh HB.out.symm,(Zb _ _).trans (hb1.mono (by simp))⟩
 cases b4
 ·go_enter Tryz.func76,Tryz.ntmps76
  go_wp2_with (first|(go_at_call 75;refine (ZI _ _ _ _).mono ?_;rintro e w1 ⟨rfl,rfl⟩;first|rw [h1]|rw [h4])|(go_at_call 79;refine hS.mono ?_;rintro e w1 ⟨rfl,hb1⟩;obtain ⟨p0,p1,p2⟩:=box3 hb1;have hz1:=hb1.size;simp only [World.size_alloc] at hz1))
  go_ret
  exact ⟨Zh (by rw [HB.out];simp),(Zb _ _).trans (hb1.mono (by simp))⟩
 have HA:=hid (dkB_all h1 h2 h4)
 go_enter Tryz.func76,Tryz.ntmps76
 go_wp2_with (first|(go_at_call 75;refine (ZI _ _ _ _).mono ?_;rintro e w1 ⟨rfl,rfl⟩;first|rw [h1]|rw [h4])|(go_at_call 79;refine hS.mono ?_;rintro e w1 ⟨rfl,hb1⟩;obtain ⟨p0,p1,p2⟩:=box3 hb1;have hz1:=hb1.size;simp only [World.size_alloc] at hz1))
 have hB1:Below w.1.size w w1:=hB0.trans (hb1.mono hB0.size)
 have hc2:=hc1.below hb1 (by simp;omega)
 have hnn:∀ i,i<d.n→0≤(d.s i).bal:=fun i hi=>by
  rw [slsB,Bool.and_eq_true] at h2
  exact slB_nn (allTo_iff.1 h2.2 i hi)
 clear hS hc1 hb1 hB0 h2 f2
 go_loopw [3] (fun i wr=>∃ k:Nat,k≤d.n∧i=.int .i64 k∧(∃ q,wr=w1.drewN q)∧Hid (∀ j,j<k→XG d j=true)) (fun i _=>d.n-(intOf i).toNat)
 case atStart=>exact ⟨0,zle _,rfl,⟨0,rfl⟩,fun j hj=>absurd hj (nlz _)⟩
 case round=>
  obtain ⟨k,hk,rfl,⟨q,rfl⟩,hall⟩:=hrel
  by_cases hkn:k<d.n
  ·obtain ⟨b,off,rfl,hlo,hbh,hcx⟩:=hc2 k hkn
   obtain ⟨d0,d1⟩:=hcx
   have hnk:=hnn k hkn
   have HN:Hid (XG d k=false→dkB d=false):=hid fun h=>by rw [HA.out];exact ZQ hkn h
   clear hc2 hnn
   by_cases e1:(d.s k).bal≤d.pr
   ·by_cases e2:d.kn≤k
    ·have HE:=hid (show XG d k=true by rw [XG,decide_eq_true e1,decide_eq_true e2];rfl)
     go_wp2
     refine wp_region_quiet_lit (by kernel_rfl) (by kernel_rfl) ?_
     repeat (refine wpQuiet_step (fun K hK=>?_);go_simp;(try rw [if_neg (show ¬((k:Int)<d.kn) by omega)]);refine hK _ ?_;clear hK K)
     refine wpQuiet_nil ?_
     rintro _ ⟨nq,rfl⟩
     exact apS1
    ·by_cases e3:(d.s k).bal≤0
     ·have g3:((d.s k).bal==0)=true:=by simp;omega
      have HE:=hid (show XG d k=false by rw [XG,decide_eq_false e2,decide_eq_false (show ¬(0<(d.s k).bal) by omega)];simp)
      go_wp2
      go_quiet (fail)
      go_wp2
      go_ret
      exact ⟨Zh (HN.out HE.out).symm,hB1.trans ⟨rfl,rfl,rfl,lrf _,fun _ _=>rfl⟩⟩
     ·have g3:((d.s k).bal==0)=false:=by simp;omega
      have HE:=hid (show XG d k=true by rw [XG,decide_eq_true e1,decide_eq_true (show 0<(d.s k).bal by omega)];simp)
      go_wp2
      go_quiet (fail)
      exact apS1
   ·have HE:=hid (show XG d k=false by rw [XG,decide_eq_false e1];rfl)
    go_wp2
    go_quiet (fail)
    go_wp2
    go_ret
    exact ⟨Zh (HN.out HE.out).symm,hB1.trans ⟨rfl,rfl,rfl,lrf _,fun _ _=>rfl⟩⟩
  ·have:k=d.n:=by omega
   have HE:=hid (show dkB d=true by rw [HA.out];exact allTo_iff.2 (fun i hi=>hall.out i (by omega)))
   clear hc2 hnn
   go_wp2
   go_ret
   exact ⟨Zh HE.out.symm,hB1.trans ⟨rfl,rfl,rfl,lrf _,fun _ _=>rfl⟩⟩
structure GW (w:World) where
 val:World
 prop:Below w.1.size w val
theorem Zf {P:Program} {id:Nat} {Q:Exit→Act→World→Prop} {a:Act} {w:World} {l:List Oper} (hm:P.follows .mixedOrders=true) (hB:Region.lexB .any l.toArray=true)
  (h:wpQuiet P l.toArray (fun w'=>∃ u:GW w,w'=u.val) (fun a'=>∀ w',(∃ u:GW w,w'=u.val)→Q .normal a' w') l a):(Code.region id l.toArray true).wp P Q a w:=
 wp_region_quiet (C:=fun w'=>∃ u:GW w,w'=u.val) hm hB ⟨⟨w.drew,(br _ _).drew⟩,rfl⟩ (by simpa using h)
theorem Zp {P:Program} {f:FuncId} {args:Array Value} {w:World} {v:Value} {u:GW w}
  (h:Calls P f args u.val fun e w'=>e=.returned v∧Below u.val.1.size u.val w'):Calls P f args u.val fun e w''=>e=.returned v∧∃ u':GW w,w''=u'.val:=
 h.mono fun _ w'' ⟨he,hb⟩=>⟨he,⟨w'',u.prop.trans (hb.mono u.prop.size)⟩,rfl⟩
theorem Zc {W1:World} {p:Addr} {v:Value} (h:W1.cell? p=some v) (hp:p.block<W1.1.size):∀ u:GW W1,u.val.cell? p=some v:=fun u=>(u.prop.cell hp).trans h
theorem Jr {w wr:World} {q nq:Nat} (h:wr=w.drewN q):∃ q',wr.drewN nq=w.drewN q':=⟨q+nq,by rw [h];simp⟩
def ascI (n:Nat) (s:Nat→Int):Bool:=YP (fun i=>i==0||decide (s (i-1)<s i)) n
def numB (of:Int) (n:Nat) (s:Nat→Int):Bool:=YP (fun i=>inB (s i) 1 of) n&&ascI n s
theorem numB_all (of:Int) (n:Nat) (s:Nat→Int):numB of n s=YP (fun i=>inB (s i) 1 of&&(i==0||decide (s (i-1)<s i))) n:=by
 rw [Bool.eq_iff_iff,numB,ascI,Bool.and_eq_true,allTo_iff,allTo_iff,allTo_iff]
 exact ⟨fun h i hi=>by rw [h.1 i hi,h.2 i hi];rfl,fun h=>⟨fun i hi=>by have:=h i hi;rw [Bool.and_eq_true] at this;exact this.1,fun i hi=>by have:=h i hi;rw [Bool.and_eq_true] at this;exact this.2⟩⟩
theorem Xo (of:Int) (n:Nat) (s:Nat→Int) (ad:Option Addr) (cap:Nat) (w:World) (lo hi:Nat) (hl:(n:Int)≤140737488355328) (hc:IntsIn w lo hi ad n s) :
  Calls Tryz.prog 78 #[.slice ad n cap,.int .i64 of] w fun e w'=>e=.returned (.bool (numB of n s))∧∃ q,w'=w.drewN q:=by
 rw [numB_all]
 go_enter Tryz.func78,Tryz.ntmps78
 go_wp2
 go_loopw [5] (fun i wr=>∃ k:Nat,k≤n∧i=.int .i64 k∧Hid (∀ j,j<k→(inB (s j) 1 of&&(j==0||decide (s (j-1)<s j)))=true)∧∃ q,wr=w.drewN q) (fun i _=>n-(intOf i).toNat)
 case atStart=>exact ⟨0,zle _,rfl,fun j hj=>absurd hj (nlz _),0,rfl⟩
 case round=>
  obtain ⟨k,hk,rfl,HA,q,hq⟩:=hrel
  have HQ:=hid hq
  by_cases hkn:k<n
  ·obtain ⟨b,off,rfl,hlo,hbh,hcx0⟩:=hc k hkn
   have hcx:wr.cell? ⟨b,off+k,none⟩=some (.int .i64 (s k)):=by rw [hq];exact hcx0
   clear hcx0
   cases hn:inB (s k) 1 of with
   | false=>
    have HE:=hid (ZQ (p:=fun i=>inB (s i) 1 of&&(i==0||decide (s (i-1)<s i))) hkn (by rw [hn];rfl))
    clear hc hq
    go_wp2
    go_quiet ((go_at_call 75;go_must (exact Calls.quiet_of_same (ZI _ _ _ _))))
    go_wp2
    go_ret
    exact ⟨Zh HE.out.symm,Jr HQ.out⟩
   | true=>
    rcases Nat.eq_zero_or_pos k with rfl|hpos
    ·clear hc hq
     have HN:=hid (show (inB (s 0) 1 of&&((0:Nat)==0||decide (s (0-1)<s 0)))=true by rw [hn];rfl)
     simp only [Nat.add_zero] at hcx
     go_wp2
     go_quiet ((go_at_call 75;go_must (exact Calls.quiet_of_same (ZI _ _ _ _))))
     go_wp2
     go_roundw
     case rel=>exact ⟨1,by omega,by go_num,fun j hj=>(by
      have:j=0:=by omega
      subst this;exact HN.out),Jr HQ.out⟩
     case measure=>simp [intOf];omega
    ·obtain ⟨m,rfl⟩:∃ m,k=m+1:=⟨k-1,by omega⟩
     obtain ⟨b',off',e,_,_,hcy0⟩:=hc m (by omega)
     cases e
     have hcy:wr.cell? ⟨b,off+m,none⟩=some (.int .i64 (s m)):=by rw [hq];exact hcy0
     have hg:decide ((0:Int)<((m+1:Nat):Int))=true:=decide_eq_true (by omega)
     clear hc hq hcy0
     by_cases hlt:s m<s (m+1)
     ·have HN:=hid (show (inB (s (m+1)) 1 of&&(m+1==0||decide (s (m+1-1)<s (m+1))))=true by rw [hn];simp [hlt])
      go_wp2
      go_quiet ((go_at_call 75;go_must (exact Calls.quiet_of_same (ZI _ _ _ _))))
      go_wp2
      go_roundw
      case rel=>exact ⟨m+2,by omega,by go_num,fun j hj=>(by
       rcases Nat.lt_or_ge j (m+1) with h3|h3
       ·exact HA.out j h3
       ·have:j=m+1:=by omega
        subst this;exact HN.out),Jr HQ.out⟩
      case measure=>simp [intOf];omega
     ·have HE:=hid (ZQ (p:=fun i=>inB (s i) 1 of&&(i==0||decide (s (i-1)<s i))) hkn (by rw [hn];simp;omega))
      go_wp2
      go_quiet ((go_at_call 75;go_must (exact Calls.quiet_of_same (ZI _ _ _ _))))
      go_wp2
      go_ret
      exact ⟨Zh HE.out.symm,Jr HQ.out⟩
  ·have HE:=hid (allTo_iff.2 (fun i hi=>HA.out i (by omega)):YP (fun i=>inB (s i) 1 of&&(i==0||decide (s (i-1)<s i))) n=true)
   clear hc hq
   go_wp2
   go_ret
   exact ⟨Zh HE.out.symm,⟨q,HQ.out⟩⟩
theorem JD (a b:Int) (w:World):Calls Tryz.prog 135 #[.int .i64 a,.int .i64 b] w fun e w'=>e=.returned (.bool (decide (a<b)))∧w'=w:=by
 go_enter Tryz.func135,Tryz.ntmps135
 go_wp2
 go_ret
 exact ⟨rfl,rfl⟩
theorem ascI_any (n:Nat) (s:Nat→Int) (ad:Option Addr) (cap:Nat) (w:World) (lo hi:Nat) (hl:(n:Int)≤140737488355328) (hc:IntsIn w lo hi ad n s) :
  Calls Tryz.prog 134 #[.slice ad n cap,.func (.func 135) #[] #[]] w fun e w'=>e=.returned (.bool (ascI n s))∧∃ q,w'=w.drewN q:=by
 go_enter Tryz.func134,Tryz.ntmps134
 go_wp2
 go_loopw [5] (fun i wr=>∃ k:Nat,1≤k∧(k≤n∨k=1)∧i=.int .i64 k∧Hid (∀ j,j<k→(j==0||decide (s (j-1)<s j))=true)∧∃ q,wr=w.drewN q) (fun i _=>n-(intOf i).toNat)
 case atStart=>exact ⟨1,lrf _,Or.inr rfl,rfl,fun j hj=>(by
   have:j=0:=by omega
   subst this;rfl),0,rfl⟩
 case round=>
  obtain ⟨k,hk1,hk,rfl,HA,q,hq⟩:=hrel
  have HQ:=hid hq
  by_cases hkn:k<n
  ·obtain ⟨m,rfl⟩:∃ m,k=m+1:=⟨k-1,by omega⟩
   obtain ⟨b,off,rfl,hlo,hbh,hcx0⟩:=hc (m+1) hkn
   obtain ⟨b',off',e,_,hbh',hcy0⟩:=hc m (by omega)
   cases e
   have hcx:wr.cell? ⟨b,off+(m+1),none⟩=some (.int .i64 (s (m+1))):=by rw [hq];exact hcx0
   have hcy:wr.cell? ⟨b,off+m,none⟩=some (.int .i64 (s m)):=by rw [hq];exact hcy0
   have hkz:(m:Int)+1≤n:=by omega
   clear hc hk hcx0 hcy0 hq
   cases hlt:decide (s m<s (m+1)) with
   | false=>
    have HE:=hid (show ascI n s=false from ZQ (p:=fun i=>i==0||decide (s (i-1)<s i)) hkn (by simpa using hlt))
    go_wp2
    go_quiet ((go_at_call 135;go_must (exact Calls.quiet_of_same (JD _ _ _))))
    go_wp2
    go_ret
    exact ⟨Zh HE.out.symm,Jr HQ.out⟩
   | true=>
    have HN:=hid (show (m+1==0||decide (s (m+1-1)<s (m+1)))=true by simpa using hlt)
    go_wp2
    go_quiet ((go_at_call 135;go_must (exact Calls.quiet_of_same (JD _ _ _))))
    go_wp2
    go_roundw
    case rel=>exact ⟨m+2,by omega,Or.inl (by omega),by go_num,fun j hj=>(by
     rcases Nat.lt_or_ge j (m+1) with h3|h3
     ·exact HA.out j h3
     ·have:j=m+1:=by omega
      subst this;exact HN.out),Jr HQ.out⟩
    case measure=>simp [intOf];omega
  ·have HE:=hid (show ascI n s=true from allTo_iff.2 (fun i hi=>HA.out i (by omega)))
   clear hc hk hq
   go_wp2
   go_ret
   exact ⟨Zh HE.out.symm,⟨q,HQ.out⟩⟩
theorem XC (of:Int) (n:Nat) (s:Nat→Int) (ad:Option Addr) (cap:Nat) (w:World) (lo hi:Nat) (hl:(n:Int)≤140737488355328) (hc:IntsIn w lo hi ad n s) :
  Calls Tryz.prog 94 #[.slice ad n cap,.int .i64 of] w fun e w'=>e=.returned (.bool (numB of n s))∧∃ q,w'=w.drewN q:=by
 go_enter Tryz.func94,Tryz.ntmps94
 go_wp2
 go_loopw [9] (fun i wr=>∃ k:Nat,k≤n∧i=.int .i64 k∧wr=w∧Hid (∀ j,j<k→inB (s j) 1 of=true)) (fun i _=>n-(intOf i).toNat)
 case atStart=>exact ⟨0,zle _,rfl,rfl,fun j hj=>absurd hj (nlz _)⟩
 case round=>
  obtain ⟨k,hk,rfl,rfl,HA⟩:=hrel
  by_cases hkn:k<n
  ·obtain ⟨b,off,rfl,hlo,hbh,hcx⟩:=hc k hkn
   clear hc
   cases hn:inB (s k) 1 of with
   | false=>
    have HE:=hid (show numB of n s=false by rw [numB,ZQ (p:=fun i=>inB (s i) 1 of) hkn hn];rfl)
    go_wp2_with (go_at_call 93;refine (Zu _ _ _ _).mono ?_;rintro e w1 ⟨rfl,rfl⟩;rw [hn])
    go_ret
    exact ⟨Zh HE.out.symm,0,rfl⟩
   | true=>
    have HN:=hid hn
    go_wp2_with (go_at_call 93;refine (Zu _ _ _ _).mono ?_;rintro e w1 ⟨rfl,rfl⟩;rw [hn])
    go_roundw
    case rel=>exact ⟨k+1,by omega,by go_num,by first|rfl|trivial,fun j hj=>by
     by_cases e:j=k
     ·rw [e];exact HN.out
     ·exact HA.out j (by omega)⟩
    case measure=>simp [intOf];omega
  ·have HE:=hid (show numB of n s=ascI n s by rw [numB,allTo_iff.2 (fun i hi=>HA.out i (by omega))];rfl)
   have hcA:=ascI_any n s ad cap wr lo hi hl hc
   clear hc
   go_wp2_with (go_at_call 134;refine hcA.mono ?_;rintro e w1 ⟨rfl,q,rfl⟩)
   go_ret
   exact ⟨Zh HE.out.symm,q,rfl⟩
end Go.Proofs.YtokkbdlofbdljaaGreat
