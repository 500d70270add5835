import Derived.Test.YtllmmkchokkaaaaGreatDoorPk48
import Derived.Test.YtllmmkchokkaaaaGreatDoorPk44
set_option maxRecDepth 100000
set_option maxHeartbeats 16000000
namespace Go.Proofs.YtllmmkchokkaaaaGreatDoor
open Go.RowKit Go.Maps
def l3Reg16G (s0:Nat) (B:Bk) (a1 a2 a3:Option Addr) (c1 c2 c3:Nat) (x:Bu) (k b off d1:Nat) (i:Nat) (u:Value):Prop:=
 match i with
 | 0=>u=.agg #[.int .i64 B.now,.int .i64 B.floor,.slice a1 B.on c1,.slice a2 B.hn c2,.slice a3 B.tn c3]
 | 1=>u=.pointer (some ⟨s0+1,0,none⟩)
 | 2=>u=.slice (some ⟨b,off,none⟩) x.wn d1
 | 3=>u=.int .i64 (k:Nat)
 | 4=>u=.pointer (some ⟨b,off+k*3,none⟩)
 | 5=>u=.pointer (some ⟨b,off+k*3,none⟩)
 | 6=>u=.string (x.ws k).kind
 | 7=>u=.pointer (some ⟨s0+1,0,none⟩)
 | 8=>u=.slice (some ⟨b,off,none⟩) x.wn d1
 | 9=>u=.int .i64 (k:Nat)
 | 10=>u=.pointer (some ⟨b,off+k*3,none⟩)
 | 11=>u=.pointer (some ⟨b,off+k*3+1,none⟩)
 | 12=>u=.string (x.ws k).name
 | 13=>∃ (ad:Option Addr) (cp:Nat),u=.tuple #[.agg #[.string (fndOb B.os (x.ws k).kind (x.ws k).name B.on).kind,.string (fndOb B.os (x.ws k).kind (x.ws k).name B.on).name,.int .i64 (fndOb B.os (x.ws k).kind (x.ws k).name B.on).ver,.int .i64 (fndOb B.os (x.ws k).kind (x.ws k).name B.on).born,.string (fndOb B.os (x.ws k).kind (x.ws k).name B.on).text,.bool (fndOb B.os (x.ws k).kind (x.ws k).name B.on).ending,.slice ad (fndOb B.os (x.ws k).kind (x.ws k).name B.on).hn cp],.bool (fndIs B.os (x.ws k).kind (x.ws k).name B.on)]
 | 14=>∃ (ad:Option Addr) (cp:Nat),u=.tuple #[.agg #[.string (fndOb B.os (x.ws k).kind (x.ws k).name B.on).kind,.string (fndOb B.os (x.ws k).kind (x.ws k).name B.on).name,.int .i64 (fndOb B.os (x.ws k).kind (x.ws k).name B.on).ver,.int .i64 (fndOb B.os (x.ws k).kind (x.ws k).name B.on).born,.string (fndOb B.os (x.ws k).kind (x.ws k).name B.on).text,.bool (fndOb B.os (x.ws k).kind (x.ws k).name B.on).ending,.slice ad (fndOb B.os (x.ws k).kind (x.ws k).name B.on).hn cp],.bool (fndIs B.os (x.ws k).kind (x.ws k).name B.on)]
 | 15=>∃ (ad:Option Addr) (cp:Nat),u=.agg #[.string (fndOb B.os (x.ws k).kind (x.ws k).name B.on).kind,.string (fndOb B.os (x.ws k).kind (x.ws k).name B.on).name,.int .i64 (fndOb B.os (x.ws k).kind (x.ws k).name B.on).ver,.int .i64 (fndOb B.os (x.ws k).kind (x.ws k).name B.on).born,.string (fndOb B.os (x.ws k).kind (x.ws k).name B.on).text,.bool (fndOb B.os (x.ws k).kind (x.ws k).name B.on).ending,.slice ad (fndOb B.os (x.ws k).kind (x.ws k).name B.on).hn cp]
 | 16=>u=.bool (fndIs B.os (x.ws k).kind (x.ws k).name B.on)
 | _=>True
theorem l3Reg16 (p0 p1 p4 p5 p6 p7 p11 p12 p13 p14 p15 p16 p17 p18 p19 p20 p21 p22 p23 p24 p25 p26 p27 p28 p29 p30 p31 p32 p33 p34 p35 p36 p37 p38 p39 p40 p41 p42 p43 p44 p45 p46 p47 p48 p49 p50 p51 p52 p53 p54 p55 p56 p57 p58 p59 p60 p61 p62 p63 p64 p65 p66 p67 p68 p69 p70 p71 p72 p73 p74 p75 p76 p77 p78 p79 p80 p81 p82 p83 p84 p102 p103 p104 p105 p106 p107 p108 p109 p110 p111 p112 p113 p114 p115 p116 p117 p118 p119 p120 p121 p122 p123 p124 p125 p126 p127 p128 p129 p130 p131 p132 p133 p134 p135 p136 p137 p138 p139 p140 p141 p142  o0 o1 o2 o3 o4 o5 o6 o7 o8 o9 o10 o11 o12 o13 o14 o15 o16 o17 o18 o19:Value) (s0:Nat) (B:Bk) (a1 a2 a3:Option Addr) (c1 c2 c3:Nat) (x:Bu) (k b off d1:Nat) (u2:Option Addr) (d2:Nat) (W:World) (hs:A3 W s0 B a1 a2 a3 c1 c2 c3 x (some ⟨b,off,none⟩) u2 d1 d2) (hk:k<x.wn) (_hl:(x.wn:Int)≤1048576) (hf:BkFit B) (Q:Exit→Act→World→Prop)
  (hQ:∀ (t:Nat→Value) (z:Nat) X,Below W.1.size W X→z<X.1.size→X.cell? ⟨z,2,none⟩=some (.int .i64 (fndOb B.os (x.ws k).kind (x.ws k).name B.on).ver)→Q .normal ⟨#[p0,p1,.pointer (some ⟨s0,0,none⟩),.pointer (some ⟨s0+1,0,none⟩),p4,p5,p6,p7,.int .i64 (k:Nat),.pointer (some ⟨z,0,none⟩),t 19,p11,p12,p13,p14,p15,p16,p17,p18,p19,p20,p21,p22,p23,p24,p25,p26,p27,p28,p29,p30,p31,p32,p33,p34,p35,p36,p37,p38,p39,p40,p41,p42,p43,p44,p45,p46,p47,p48,p49,p50,p51,p52,p53,p54,p55,p56,p57,p58,p59,p60,p61,p62,p63,p64,p65,p66,p67,p68,p69,p70,p71,p72,p73,p74,p75,p76,p77,p78,p79,p80,p81,p82,p83,p84,t 14,t 0,t 1,t 2,t 3,t 4,t 5,t 6,t 7,t 8,t 9,t 10,t 11,t 12,t 13,t 15,t 16,p102,p103,p104,p105,p106,p107,p108,p109,p110,p111,p112,p113,p114,p115,p116,p117,p118,p119,p120,p121,p122,p123,p124,p125,p126,p127,p128,p129,p130,p131,p132,p133,p134,p135,p136,p137,p138,p139,p140,p141,p142],[]⟩ X) :
  Code.wp Tryz.prog (Code.region 16 #[⟨some 86,.load 35 (.tmp 2),35, "l3_book_bundle.go:21",#[],none⟩,⟨some 87,.fieldAddr 57 (.tmp 3) 0,0, "l3_book_bundle.go:21",#[],none⟩,⟨some 88,.load 54 (.tmp 87),54, "l3_book_bundle.go:21",#[⟨1,.data⟩],none⟩,⟨some 89,.move (.tmp 8),3, "l3_book_bundle.go:21",#[],none⟩,⟨some 90,.indexAddr 54 (.tmp 88) (.tmp 89),0, "l3_book_bundle.go:21",#[⟨2,.data⟩,⟨3,.data⟩],none⟩,⟨some 91,.fieldAddr 158 (.tmp 90) 0,0, "l3_book_bundle.go:21",#[⟨4,.data⟩],none⟩,⟨some 92,.load 9 (.tmp 91),9, "l3_book_bundle.go:21",#[⟨5,.data⟩],none⟩,⟨some 93,.fieldAddr 57 (.tmp 3) 0,0, "l3_book_bundle.go:21",#[],none⟩,⟨some 94,.load 54 (.tmp 93),54, "l3_book_bundle.go:21",#[⟨7,.data⟩],none⟩,⟨some 95,.move (.tmp 8),3, "l3_book_bundle.go:21",#[],none⟩,⟨some 96,.indexAddr 54 (.tmp 94) (.tmp 95),0, "l3_book_bundle.go:21",#[⟨8,.data⟩,⟨9,.data⟩],none⟩,⟨some 97,.fieldAddr 158 (.tmp 96) 1,0, "l3_book_bundle.go:21",#[⟨10,.data⟩],none⟩,⟨some 98,.load 9 (.tmp 97),9, "l3_book_bundle.go:21",#[⟨11,.data⟩],none⟩,⟨some 99,.call ⟨.value (.func 76),#[.tmp 86,.tmp 92,.tmp 98],#[35,9,9]⟩,123, "l3_book_bundle.go:21",#[⟨0,.data⟩,⟨6,.data⟩,⟨12,.data⟩],none⟩,⟨some 85,.move (.tmp 99),123, "l3_book_bundle.go:21",#[⟨13,.data⟩],none⟩,⟨some 100,.extract (.tmp 85) 0,118, "l3_book_bundle.go:21",#[⟨14,.data⟩],none⟩,⟨some 101,.extract (.tmp 85) 1,4, "l3_book_bundle.go:21",#[⟨14,.data⟩,{ on:=18,ground:=Ground.gcOnly Departure.lateStores }],none⟩,⟨some 9,.alloc 118,0, "l3_book_bundle.go:21",#[],none⟩,⟨none,.store 118 (.tmp 9) (.tmp 100),0, "l3_book_bundle.go:21",#[⟨17,.data⟩,⟨15,.data⟩,⟨13,.chain⟩,⟨0,.phase⟩,⟨1,.phase⟩,⟨2,.phase⟩,⟨3,.phase⟩,⟨4,.phase⟩,⟨5,.phase⟩,⟨6,.phase⟩,⟨7,.phase⟩,⟨8,.phase⟩,⟨9,.phase⟩,⟨10,.phase⟩,⟨11,.phase⟩,⟨12,.phase⟩,⟨13,.phase⟩,⟨14,.phase⟩,⟨15,.phase⟩,{ on:=16,ground:=Ground.textOnly Departure.lateStores },⟨17,.phase⟩],none⟩,⟨some 10,.assign (.tmp 101),4, "l3_book_bundle.go:21",#[⟨16,.data⟩,⟨18,.chain⟩,⟨0,.phase⟩,⟨1,.phase⟩,⟨2,.phase⟩,⟨3,.phase⟩,⟨4,.phase⟩,⟨5,.phase⟩,⟨6,.phase⟩,⟨7,.phase⟩,⟨8,.phase⟩,⟨9,.phase⟩,⟨10,.phase⟩,⟨11,.phase⟩,⟨12,.phase⟩,⟨13,.phase⟩,⟨14,.phase⟩,⟨15,.phase⟩,⟨16,.phase⟩,⟨17,.phase⟩,⟨18,.phase⟩],none⟩] true) Q ⟨#[p0,p1,.pointer (some ⟨s0,0,none⟩),.pointer (some ⟨s0+1,0,none⟩),p4,p5,p6,p7,.int .i64 (k:Nat),o17,o19,p11,p12,p13,p14,p15,p16,p17,p18,p19,p20,p21,p22,p23,p24,p25,p26,p27,p28,p29,p30,p31,p32,p33,p34,p35,p36,p37,p38,p39,p40,p41,p42,p43,p44,p45,p46,p47,p48,p49,p50,p51,p52,p53,p54,p55,p56,p57,p58,p59,p60,p61,p62,p63,p64,p65,p66,p67,p68,p69,p70,p71,p72,p73,p74,p75,p76,p77,p78,p79,p80,p81,p82,p83,p84,o14,o0,o1,o2,o3,o4,o5,o6,o7,o8,o9,o10,o11,o12,o13,o15,o16,p102,p103,p104,p105,p106,p107,p108,p109,p110,p111,p112,p113,p114,p115,p116,p117,p118,p119,p120,p121,p122,p123,p124,p125,p126,p127,p128,p129,p130,p131,p132,p133,p134,p135,p136,p137,p138,p139,p140,p141,p142],[]⟩ W:=by
 have HS:=hid hs
 have HF:=hid hf
 have hcx:=fun (X:World) (hb:Below W.1.size W X)=>hs.below hb
 have HC:=hid hcx
 clear hcx hf hs
 have zs:∀ X,Below W.1.size W X→s0+1+1<X.1.size:=fun X hb=>Nat.lt_of_lt_of_le HS.out.ans.row.lt hb.size
 refine regionT Zf 20 17 (fun t:Nat→Value=>#[p0,p1,.pointer (some ⟨s0,0,none⟩),.pointer (some ⟨s0+1,0,none⟩),p4,p5,p6,p7,.int .i64 (k:Nat),t 17,t 19,p11,p12,p13,p14,p15,p16,p17,p18,p19,p20,p21,p22,p23,p24,p25,p26,p27,p28,p29,p30,p31,p32,p33,p34,p35,p36,p37,p38,p39,p40,p41,p42,p43,p44,p45,p46,p47,p48,p49,p50,p51,p52,p53,p54,p55,p56,p57,p58,p59,p60,p61,p62,p63,p64,p65,p66,p67,p68,p69,p70,p71,p72,p73,p74,p75,p76,p77,p78,p79,p80,p81,p82,p83,p84,t 14,t 0,t 1,t 2,t 3,t 4,t 5,t 6,t 7,t 8,t 9,t 10,t 11,t 12,t 13,t 15,t 16,p102,p103,p104,p105,p106,p107,p108,p109,p110,p111,p112,p113,p114,p115,p116,p117,p118,p119,p120,p121,p122,p123,p124,p125,p126,p127,p128,p129,p130,p131,p132,p133,p134,p135,p136,p137,p138,p139,p140,p141,p142]) (fun i=>[o0,o1,o2,o3,o4,o5,o6,o7,o8,o9,o10,o11,o12,o13,o14,o15,o16,o17,o18,o19].getD i undef) (l3Reg16G s0 B a1 a2 a3 c1 c2 c3 x k b off d1) (fun z X=>RowF X z 7 (vec [.string ⟨#[]⟩,.string ⟨#[]⟩,.int .i64 0,.int .i64 0,.string ⟨#[]⟩,.bool false,.slice none 0 0])) (fun z X=>X.cell? ⟨z,2,none⟩=some (.int .i64 (fndOb B.os (x.ws k).kind (x.ws k).name B.on).ver)) Zf Zb Zf (Wt rfl) (fun z X Y h hz hb=>h.below hb hz) (fun z X Y h hz hb=>(hb.cell (p:=⟨z,2,none⟩) hz).trans h) rfl ?_ ?_ ?_ ?_
 ·intro i hi i1 i2 t X K hb hg hK
  have hzs:=zs X hb
  rcases (show i=0∨i=1∨i=2∨i=3∨i=4∨i=5∨i=6∨i=7∨i=8∨i=9∨i=10∨i=11∨i=12∨i=13∨i=14∨i=15∨i=16∨i=19 by omega) with rfl|rfl|rfl|rfl|rfl|rfl|rfl|rfl|rfl|rfl|rfl|rfl|rfl|rfl|rfl|rfl|rfl|rfl
  ·have p0:=(HC.out X hb).bk 0 Zd
   have p1:=(HC.out X hb).bk 1 Zd
   have p2:=(HC.out X hb).bk 2 Zd
   have p3:=(HC.out X hb).bk 3 Zd
   have p4:=(HC.out X hb).bk 4 Zd
   simp only [vec,List.getD_cons_zero,List.getD_cons_succ] at p0 p1 p2 p3 p4
   exact sg
  ·exact sg
  ·have ea:t 1=.pointer (some ⟨s0+1,0,none⟩):=hg 1 (Wt rfl) Zb Zb
   have q0:=(HC.out X hb).bu 0 Zd
   simp only [vec,List.getD_cons_zero] at q0
   exact sg
  ·exact sg
  ·have ea:t 2=.slice (some ⟨b,off,none⟩) x.wn d1:=hg 2 (Wt rfl) Zb Zb
   have eb:t 3=.int .i64 (k:Nat):=hg 3 (Wt rfl) Zb Zb
   exact sg
  ·have ea:t 4=.pointer (some ⟨b,off+k*3,none⟩):=hg 4 (Wt rfl) Zb Zb
   exact sg
  ·have ea:t 5=.pointer (some ⟨b,off+k*3,none⟩):=hg 5 (Wt rfl) Zb Zb
   obtain ⟨b9,off9,h9,_,_,hc9⟩:=(HC.out X hb).uin.wt k hk
   cases h9
   obtain ⟨d90,d91,d92⟩:=hc9
   exact sg
  ·exact sg
  ·have ea:t 7=.pointer (some ⟨s0+1,0,none⟩):=hg 7 (Wt rfl) Zb Zb
   have q0:=(HC.out X hb).bu 0 Zd
   simp only [vec,List.getD_cons_zero] at q0
   exact sg
  ·exact sg
  ·have ea:t 8=.slice (some ⟨b,off,none⟩) x.wn d1:=hg 8 (Wt rfl) Zb Zb
   have eb:t 9=.int .i64 (k:Nat):=hg 9 (Wt rfl) Zb Zb
   exact sg
  ·have ea:t 10=.pointer (some ⟨b,off+k*3,none⟩):=hg 10 (Wt rfl) Zb Zb
   exact sg
  ·have ea:t 11=.pointer (some ⟨b,off+k*3+1,none⟩):=hg 11 (Wt rfl) Zb Zb
   obtain ⟨b9,off9,h9,_,_,hc9⟩:=(HC.out X hb).uin.wt k hk
   cases h9
   obtain ⟨d90,d91,d92⟩:=hc9
   exact sg
  ·have e0:t 0=.agg #[.int .i64 B.now,.int .i64 B.floor,.slice a1 B.on c1,.slice a2 B.hn c2,.slice a3 B.tn c3]:=hg 0 (Wt rfl) Zb Zb
   have e6:t 6=.string (x.ws k).kind:=hg 6 (Wt rfl) Zb Zb
   have e12:t 12=.string (x.ws k).name:=hg 12 (Wt rfl) Zb Zb
   refine wpOp_of rfl rfl ?_
   have HK:=hid hK
   clear hK hg
   go_simp
   go_at_call 76
   refine (specFind_any B.now B.floor B.on B.os a1 a2 a3 c1 B.hn c2 B.tn c3 (x.ws k).kind (x.ws k).name X 0 s0 Za (by have:=HF.out.o;omega) HF.out.os (HC.out X hb).bin.o).mono ?_
   rintro r Y ⟨ad,cp,rfl,_,_,hbY⟩
   have h:=HK.out _ Y ⟨ad,cp,rfl⟩ hbY
   simpa [updT,e0,e6,e12] using h
  ·obtain ⟨ad,cp,e13⟩:=hg 13 (Wt rfl) Zb Zb
   have h:=hK _ X ⟨ad,cp,rfl⟩ Zbv
   refine wpOp_of rfl rfl ?_
   clear hK hg
   go_simp
   simpa [updT,e13] using h
  ·obtain ⟨ad,cp,e14⟩:=hg 14 (Wt rfl) Zb Zb
   have h:=hK _ X ⟨ad,cp,rfl⟩ Zbv
   refine wpOp_of rfl rfl ?_
   clear hK hg
   go_simp
   simpa [updT,e14] using h
  ·obtain ⟨ad,cp,ea⟩:=hg 14 (Wt rfl) Zb Zb
   exact sg
  ·have e16:t 16=.bool (fndIs B.os (x.ws k).kind (x.ws k).name B.on):=hg 16 (Wt rfl) Zb Zb
   have h:=hK (.bool (fndIs B.os (x.ws k).kind (x.ws k).name B.on)) X trivial Zbv
   refine wpOp_of rfl rfl ?_
   clear hK hg
   go_simp
   simpa [updT,e16] using h
 ·intro t X K hK
  have h:=hK _ (RowF.new (l:=[.string ⟨#[]⟩,.string ⟨#[]⟩,.int .i64 0,.int .i64 0,.string ⟨#[]⟩,.bool false,.slice none 0 0]) (t:=118) Zbv) Zbu Zd
  refine wpOp_of rfl rfl ?_
  clear hK
  go_simp
  simpa [updT] using h
 ·intro t X K z ez hz0 hzX hg hK
  obtain ⟨ad,cp,e15⟩:=hg 15 (Wt rfl) Zb Zb
  have rf:=hz0.free
  have r0:=hz0.cell 0 Za
  have r1:=hz0.cell 1 Za
  have r2:=hz0.cell 2 Za
  have r3:=hz0.cell 3 Za
  have r4:=hz0.cell 4 Za
  have r5:=hz0.cell 5 Za
  have r6:=hz0.cell 6 Za
  simp only [vec,List.getD_cons_zero,List.getD_cons_succ] at r0 r1 r2 r3 r4 r5 r6
  have R7:=(row7 (v0:=.string (fndOb B.os (x.ws k).kind (x.ws k).name B.on).kind) (v1:=.string (fndOb B.os (x.ws k).kind (x.ws k).name B.on).name) (v2:=.int .i64 (fndOb B.os (x.ws k).kind (x.ws k).name B.on).ver) (v3:=.int .i64 (fndOb B.os (x.ws k).kind (x.ws k).name B.on).born) (v4:=.string (fndOb B.os (x.ws k).kind (x.ws k).name B.on).text) (v5:=.bool (fndOb B.os (x.ws k).kind (x.ws k).name B.on).ending) (v6:=.slice ad (fndOb B.os (x.ws k).kind (x.ws k).name B.on).hn cp) hz0).cell 2 Za
  simp only [vec,List.getD_cons_zero,List.getD_cons_succ] at R7
  have h:=hK (.tuple #[]) _ R7 (fr7 _ _ _ _ _ _ _)
  refine wpOp_of rfl rfl ?_
  have H:=hid h
  clear hK hg h R7
  go_simp
  simpa [updT,ez,e15] using H.out
 ·intro t X z hb hg ez hz hzX hB
  have h:=hQ t z X hb hzX hB
  rw [←ez] at h
  exact h
def nxB (B:Bk) (v:Wr):Bk:=if wCode B v=0 then wBk B v else B
theorem l2Do_w (B:Bk) (v:Wr) (a1 a2 a3:Option Addr) (c1 c2 c3:Nat) (w:World) (hok:WOk B v) (hc:BkIn w 0 w.1.size B a1 a2 a3) :
  Calls Tryz.prog 35 #[.agg #[.int .i64 B.now,.int .i64 B.floor,.slice a1 B.on c1,.slice a2 B.hn c2,.slice a3 B.tn c3],.agg #[.int .i64 v.op,.string v.kind,.string v.name,.int .i64 v.seen,.string v.text,.string v.hold]] w fun e w'=>
   Below w.1.size w w'∧∃ (b1 b2 b3:Option Addr) (e1 e2 e3:Nat) (ve:Int),e=.returned (.agg #[.int .i64 (wCode B v),.int .i64 (nxB B v).now,.int .i64 (nxB B v).floor,.slice b1 (nxB B v).on e1,.slice b2 (nxB B v).hn e2,.slice b3 (nxB B v).tn e3,.int .i64 ve])∧BkIn w' 0 w'.1.size (nxB B v) b1 b2 b3:=by
 by_cases h0:wCode B v=0
 ·have e:nxB B v=wBk B v:=if_pos h0
  rw [e,h0]
  refine (l2Do_ok B v a1 a2 a3 c1 c2 c3 w hok hc h0).mono ?_
  rintro e w' ⟨hb,a1,a2,a3,c1,c2,c3,rfl,hin⟩
  exact ⟨hb,a1,a2,a3,c1,c2,c3,_,rfl,hin⟩
 ·have e:nxB B v=B:=if_neg h0
  rw [e]
  by_cases h4:wCode B v=4
  ·rw [h4]
   refine (l2Do_4 B v a1 a2 a3 c1 c2 c3 w hok hc h4).mono ?_
   rintro e w' ⟨rfl,hb⟩
   exact ⟨hb,a1,a2,a3,c1,c2,c3,_,rfl,hc.grow hb⟩
  ·refine (l2Do_err B v a1 a2 a3 c1 c2 c3 w hok hc h0 h4).mono ?_
   rintro e w' ⟨rfl,hb⟩
   exact ⟨hb,a1,a2,a3,c1,c2,c3,_,rfl,hc.grow hb⟩
theorem als_want {B:Bk} {x:Bu} {w:World} {e:Ending} {w':World} {k:Nat} (h:buB x=true) (hk:k<x.wn) (hA:∀ j,j<k→wtOk B (x.ws j)=true) (hN:wtOk B (x.ws k)=false) (ha:AnS 9 B 0 k w e w'):AlS B x w e w':=by
 have hF:wtF B x=k:=fstN_no hk hA hN
 unfold AlS allC0 allB0 allV0 allN0
 rw [if_pos h,hF,if_pos hk,if_pos (Or.inl hk),if_pos (Or.inl hk),if_pos hk]
 exact ha
theorem als_write {B:Bk} {x:Bu} {w:World} {e:Ending} {w':World} {k:Nat} (h:buB x=true) (hW:∀ j,j<x.wn→wtOk B (x.ws j)=true) (hk:k<x.rn) (hA:∀ j,j<k→wrOk B x j=true) (hN:¬wCode (runB B x.rs k) (x.rs k)=0) (ha:AnS (wCode (runB B x.rs k) (x.rs k)) B 0 k w e w'):AlS B x w e w':=by
 have hF:¬wtF B x<x.wn:=by have:wtF B x=x.wn:=fstN_all hW;omega
 have hG:wrF B x=k:=fstN_no hk hA (decide_eq_false hN)
 unfold AlS allC0 allB0 allV0 allN0
 rw [if_pos h,hG,if_neg hF,if_pos hk,if_pos (Or.inr hk),if_pos (Or.inr hk),if_neg hF,if_pos hk]
 exact ha
theorem als_done {B:Bk} {x:Bu} {w:World} {e:Ending} {w':World} (h:buB x=true) (hW:∀ j,j<x.wn→wtOk B (x.ws j)=true) (hA:∀ j,j<x.rn→wrOk B x j=true) (ha:AnS 0 (runB B x.rs x.rn) (runB B x.rs x.rn).now 0 w e w'):AlS B x w e w':=by
 have hF:¬wtF B x<x.wn:=by have:wtF B x=x.wn:=fstN_all hW;omega
 have hG:¬wrF B x<x.rn:=by have:wrF B x=x.rn:=fstN_all hA;omega
 unfold AlS allC0 allB0 allV0 allN0
 rw [if_pos h,if_neg hF,if_neg hG,if_neg (fun q=>q.elim hF hG),if_neg (fun q=>q.elim hF hG),if_neg hF,if_neg hG]
 exact ha
def l3Reg23G (s0 _zn:Nat) (Y:Bk) (y1 y2 y3:Option Addr) (f1 f2 f3:Nat) (x:Bu) (k b off d2:Nat) (W:World) (i:Nat) (u:Value) (X:World):Prop:=
 match i with
 | 0=>u=.agg #[.int .i64 Y.now,.int .i64 Y.floor,.slice y1 Y.on f1,.slice y2 Y.hn f2,.slice y3 Y.tn f3]
 | 1=>u=.pointer (some ⟨s0+1,1,none⟩)
 | 2=>u=.slice (some ⟨b,off,none⟩) x.rn d2
 | 3=>u=.int .i64 (k:Nat)
 | 4=>u=.pointer (some ⟨b,off+k*6,none⟩)
 | 5=>u=.agg #[.int .i64 (x.rs k).op,.string (x.rs k).kind,.string (x.rs k).name,.int .i64 (x.rs k).seen,.string (x.rs k).text,.string (x.rs k).hold]
 | 6=>∃ (b1 b2 b3:Option Addr) (e1 e2 e3:Nat) (ve:Int),u=.agg #[.int .i64 (wCode Y (x.rs k)),.int .i64 (nxB Y (x.rs k)).now,.int .i64 (nxB Y (x.rs k)).floor,.slice b1 (nxB Y (x.rs k)).on e1,.slice b2 (nxB Y (x.rs k)).hn e2,.slice b3 (nxB Y (x.rs k)).tn e3,.int .i64 ve]∧BkIn X 0 X.1.size (nxB Y (x.rs k)) b1 b2 b3
 | 7=>∃ z,u=.pointer (some ⟨z,0,none⟩)∧W.1.size≤z∧Bx X z
 | _=>True
theorem l3Reg23 (p0 p1 p2 p4 p5 p6 p7 p8 p9 p10 p14 p15 p16 p17 p18 p19 p20 p21 p22 p23 p24 p25 p26 p27 p28 p29 p30 p31 p32 p33 p34 p35 p36 p37 p38 p39 p40 p41 p42 p43 p44 p45 p46 p47 p48 p49 p50 p51 p52 p53 p54 p55 p56 p57 p58 p59 p60 p61 p62 p63 p64 p65 p66 p67 p68 p69 p70 p71 p72 p73 p74 p75 p76 p77 p78 p79 p80 p81 p82 p83 p84 p85 p86 p87 p88 p89 p90 p91 p92 p93 p94 p95 p96 p97 p98 p99 p100 p101 p102 p103 p104 p105 p106 p107 p108 p109 p110 p111 p112 p113 p114 p115 p116 p117 p118 p119 p120 p121 p129 p130 p131 p132 p133 p134 p135 p136 p137 p138 p139 p140 p141 p142  o0 o1 o2 o3 o4 o5 o6 o7 o8:Value) (s0 zn:Nat) (Y:Bk) (y1 y2 y3:Option Addr) (f1 f2 f3:Nat) (x:Bu) (k b off d2:Nat) (B:Bk) (a1 a2 a3:Option Addr) (c1 c2 c3:Nat) (u1:Option Addr) (d1:Nat) (W:World) (hs:A3 W s0 B a1 a2 a3 c1 c2 c3 x u1 (some ⟨b,off,none⟩) d1 d2) (hk:k<x.rn) (_hl:(x.rn:Int)≤1048576) (hok:WOk Y (x.rs k)) (hzn:zn<W.1.size) (hy:HoldN W zn [.int .i64 Y.now,.int .i64 Y.floor,.slice y1 Y.on f1,.slice y2 Y.hn f2,.slice y3 Y.tn f3]) (hin:BkIn W 0 W.1.size Y y1 y2 y3) (Q:Exit→Act→World→Prop)
  (hQ:∀ (t:Nat→Value) (z:Nat) (b1 b2 b3:Option Addr) (e1 e2 e3:Nat) (ve:Int) X,Below W.1.size W X∧W.1.size≤z∧z<X.1.size∧HoldN X z (ddCells (wCode Y (x.rs k)) (nxB Y (x.rs k)) ve b1 b2 b3 e1 e2 e3)∧BkIn X 0 X.1.size (nxB Y (x.rs k)) b1 b2 b3→Q .normal ⟨#[p0,p1,p2,.pointer (some ⟨s0+1,0,none⟩),p4,p5,p6,p7,p8,p9,p10,.pointer (some ⟨zn,0,none⟩),.int .i64 (k:Nat),.pointer (some ⟨z,0,none⟩),p14,p15,p16,p17,p18,p19,p20,p21,p22,p23,p24,p25,p26,p27,p28,p29,p30,p31,p32,p33,p34,p35,p36,p37,p38,p39,p40,p41,p42,p43,p44,p45,p46,p47,p48,p49,p50,p51,p52,p53,p54,p55,p56,p57,p58,p59,p60,p61,p62,p63,p64,p65,p66,p67,p68,p69,p70,p71,p72,p73,p74,p75,p76,p77,p78,p79,p80,p81,p82,p83,p84,p85,p86,p87,p88,p89,p90,p91,p92,p93,p94,p95,p96,p97,p98,p99,p100,p101,p102,p103,p104,p105,p106,p107,p108,p109,p110,p111,p112,p113,p114,p115,p116,p117,p118,p119,p120,p121,t 0,t 1,t 2,t 3,t 4,t 5,t 6,p129,p130,p131,p132,p133,p134,p135,p136,p137,p138,p139,p140,p141,p142],[]⟩ X) :
  Code.wp Tryz.prog (Code.region 23 #[⟨some 122,.load 35 (.tmp 11),35, "l3_book_bundle.go:28",#[],none⟩,⟨some 123,.fieldAddr 57 (.tmp 3) 1,0, "l3_book_bundle.go:28",#[],none⟩,⟨some 124,.load 55 (.tmp 123),55, "l3_book_bundle.go:28",#[⟨1,.data⟩],none⟩,⟨some 125,.move (.tmp 12),3, "l3_book_bundle.go:28",#[],none⟩,⟨some 126,.indexAddr 55 (.tmp 124) (.tmp 125),0, "l3_book_bundle.go:28",#[⟨2,.data⟩,⟨3,.data⟩],none⟩,⟨some 127,.load 40 (.tmp 126),40, "l3_book_bundle.go:28",#[⟨4,.data⟩],none⟩,⟨some 128,.call ⟨.value (.func 35),#[.tmp 122,.tmp 127],#[35,40]⟩,37, "l3_book_bundle.go:28",#[⟨0,.data⟩,⟨5,.data⟩],none⟩,⟨some 13,.alloc 37,0, "l3_book_bundle.go:28",#[],none⟩,⟨none,.store 37 (.tmp 13) (.tmp 128),0, "l3_book_bundle.go:28",#[⟨7,.data⟩,⟨6,.data⟩,⟨6,.chain⟩,⟨0,.phase⟩,⟨1,.phase⟩,⟨2,.phase⟩,⟨3,.phase⟩,⟨4,.phase⟩,⟨5,.phase⟩,⟨6,.phase⟩,⟨7,.phase⟩],none⟩] true) Q ⟨#[p0,p1,p2,.pointer (some ⟨s0+1,0,none⟩),p4,p5,p6,p7,p8,p9,p10,.pointer (some ⟨zn,0,none⟩),.int .i64 (k:Nat),o7,p14,p15,p16,p17,p18,p19,p20,p21,p22,p23,p24,p25,p26,p27,p28,p29,p30,p31,p32,p33,p34,p35,p36,p37,p38,p39,p40,p41,p42,p43,p44,p45,p46,p47,p48,p49,p50,p51,p52,p53,p54,p55,p56,p57,p58,p59,p60,p61,p62,p63,p64,p65,p66,p67,p68,p69,p70,p71,p72,p73,p74,p75,p76,p77,p78,p79,p80,p81,p82,p83,p84,p85,p86,p87,p88,p89,p90,p91,p92,p93,p94,p95,p96,p97,p98,p99,p100,p101,p102,p103,p104,p105,p106,p107,p108,p109,p110,p111,p112,p113,p114,p115,p116,p117,p118,p119,p120,p121,o0,o1,o2,o3,o4,o5,o6,p129,p130,p131,p132,p133,p134,p135,p136,p137,p138,p139,p140,p141,p142],[]⟩ W:=by
 have HS:=hid hs
 have HOK:=hid hok
 have HC:=hid (fun (X:World) (hb:Below W.1.size W X)=>hs.below hb)
 have HYC:=hid (fun (X:World) (hb:Below W.1.size W X)=>hy.below hb hzn)
 have HIN:=hid (fun (X:World) (hb:Below W.1.size W X)=>hin.grow hb)
 clear hok hs hy hin
 have zs:∀ X,Below W.1.size W X→s0+1+1<X.1.size:=fun X hb=>Nat.lt_of_lt_of_le HS.out.ans.row.lt hb.size
 refine regionH Zf 8 (fun t:Nat→Value=>#[p0,p1,p2,.pointer (some ⟨s0+1,0,none⟩),p4,p5,p6,p7,p8,p9,p10,.pointer (some ⟨zn,0,none⟩),.int .i64 (k:Nat),t 7,p14,p15,p16,p17,p18,p19,p20,p21,p22,p23,p24,p25,p26,p27,p28,p29,p30,p31,p32,p33,p34,p35,p36,p37,p38,p39,p40,p41,p42,p43,p44,p45,p46,p47,p48,p49,p50,p51,p52,p53,p54,p55,p56,p57,p58,p59,p60,p61,p62,p63,p64,p65,p66,p67,p68,p69,p70,p71,p72,p73,p74,p75,p76,p77,p78,p79,p80,p81,p82,p83,p84,p85,p86,p87,p88,p89,p90,p91,p92,p93,p94,p95,p96,p97,p98,p99,p100,p101,p102,p103,p104,p105,p106,p107,p108,p109,p110,p111,p112,p113,p114,p115,p116,p117,p118,p119,p120,p121,t 0,t 1,t 2,t 3,t 4,t 5,t 6,p129,p130,p131,p132,p133,p134,p135,p136,p137,p138,p139,p140,p141,p142]) (fun i=>[o0,o1,o2,o3,o4,o5,o6,o7,o8].getD i undef) (l3Reg23G s0 zn Y y1 y2 y3 f1 f2 f3 x k b off d2 W) (fun a X=>∃ (t:Nat→Value) (z:Nat) (b1 b2 b3:Option Addr) (e1 e2 e3:Nat) (ve:Int),a=⟨#[p0,p1,p2,.pointer (some ⟨s0+1,0,none⟩),p4,p5,p6,p7,p8,p9,p10,.pointer (some ⟨zn,0,none⟩),.int .i64 (k:Nat),.pointer (some ⟨z,0,none⟩),p14,p15,p16,p17,p18,p19,p20,p21,p22,p23,p24,p25,p26,p27,p28,p29,p30,p31,p32,p33,p34,p35,p36,p37,p38,p39,p40,p41,p42,p43,p44,p45,p46,p47,p48,p49,p50,p51,p52,p53,p54,p55,p56,p57,p58,p59,p60,p61,p62,p63,p64,p65,p66,p67,p68,p69,p70,p71,p72,p73,p74,p75,p76,p77,p78,p79,p80,p81,p82,p83,p84,p85,p86,p87,p88,p89,p90,p91,p92,p93,p94,p95,p96,p97,p98,p99,p100,p101,p102,p103,p104,p105,p106,p107,p108,p109,p110,p111,p112,p113,p114,p115,p116,p117,p118,p119,p120,p121,t 0,t 1,t 2,t 3,t 4,t 5,t 6,p129,p130,p131,p132,p133,p134,p135,p136,p137,p138,p139,p140,p141,p142],[]⟩∧Below W.1.size W X∧W.1.size≤z∧z<X.1.size∧HoldN X z (ddCells (wCode Y (x.rs k)) (nxB Y (x.rs k)) ve b1 b2 b3 e1 e2 e3)∧BkIn X 0 X.1.size (nxB Y (x.rs k)) b1 b2 b3) Zf Zf Zf ?_ rfl ?_ ?_ ?_
 ·intro i u X Y hi h hb
  rcases (show i=0∨i=1∨i=2∨i=3∨i=4∨i=5∨i=6∨i=7 by omega) with rfl|rfl|rfl|rfl|rfl|rfl|rfl|rfl
  ·exact h
  ·exact h
  ·exact h
  ·exact h
  ·exact h
  ·exact h
  ·obtain ⟨b1,b2,b3,e1,e2,e3,ve,e,h⟩:=h
   exact ⟨b1,b2,b3,e1,e2,e3,ve,e,h.grow hb⟩
  ·obtain ⟨z,e,h1,h2⟩:=h
   exact ⟨z,e,h1,h2.grow hb⟩
 ·intro i hi t X K hb hg hK
  have zX:=hb.size
  have hzs:=zs X hb
  have hzn2:=Nat.lt_of_lt_of_le hzn zX
  rcases (show i=0∨i=1∨i=2∨i=3∨i=4∨i=5∨i=6∨i=7 by omega) with rfl|rfl|rfl|rfl|rfl|rfl|rfl|rfl
  ·have p0:=HYC.out X hb 0 Zd
   have p1:=HYC.out X hb 1 Zd
   have p2:=HYC.out X hb 2 Zd
   have p3:=HYC.out X hb 3 Zd
   have p4:=HYC.out X hb 4 Zd
   simp only [vec,List.getD_cons_zero,List.getD_cons_succ] at p0 p1 p2 p3 p4
   exact sg
  ·exact sg
  ·have ea:t 1=.pointer (some ⟨s0+1,1,none⟩):=hg 1 (Wt rfl)
   have q0:=(HC.out X hb).bu 1 Zd
   simp only [vec,List.getD_cons_zero,List.getD_cons_succ] at q0
   exact sg
  ·exact sg
  ·have ea:t 2=.slice (some ⟨b,off,none⟩) x.rn d2:=hg 2 (Wt rfl)
   have eb:t 3=.int .i64 (k:Nat):=hg 3 (Wt rfl)
   exact sg
  ·have ea:t 4=.pointer (some ⟨b,off+k*6,none⟩):=hg 4 (Wt rfl)
   obtain ⟨b9,off9,h9,_,_,hc9⟩:=(HC.out X hb).uin.wr k hk
   cases h9
   obtain ⟨d90,d91,d92,d93,d94,d95⟩:=hc9
   exact sg
  ·have e0:t 0=.agg #[.int .i64 Y.now,.int .i64 Y.floor,.slice y1 Y.on f1,.slice y2 Y.hn f2,.slice y3 Y.tn f3]:=hg 0 (Wt rfl)
   have e5:t 5=.agg #[.int .i64 (x.rs k).op,.string (x.rs k).kind,.string (x.rs k).name,.int .i64 (x.rs k).seen,.string (x.rs k).text,.string (x.rs k).hold]:=hg 5 (Wt rfl)
   refine wpOp_of rfl rfl ?_
   have HK:=hid hK
   clear hK hg
   go_simp
   go_at_call 35
   refine (l2Do_w Y (x.rs k) y1 y2 y3 f1 f2 f3 X HOK.out (HIN.out X hb)).mono ?_
   rintro r Z ⟨hbZ,b1,b2,b3,g1,g2,g3,ve,rfl,hZ⟩
   have h:=HK.out _ Z ⟨b1,b2,b3,g1,g2,g3,ve,rfl,hZ⟩ hbZ
   simpa [updT,e0,e5] using h
  ·have h:=hK (.pointer (some ⟨X.1.size,0,none⟩)) _ ⟨X.1.size,rfl,zX,bx_new X⟩ Zbu
   refine wpOp_of rfl rfl ?_
   clear hK hg
   go_simp
   simpa [updT] using h
 ·intro t X K hb hg hK
  have zX:=hb.size
  obtain ⟨z,ez,hz,hx⟩:=hg 7 Za
  obtain ⟨b1,b2,b3,e1,e2,e3,ve,ed,hd⟩:=hg 6 Za
  have zl:=hx.row.lt
  have fz:=hx.row.free
  have r0:=hx.row.cell 0 Za
  have r1:=hx.row.cell 1 Za
  have r2:=hx.row.cell 2 Za
  have r3:=hx.row.cell 3 Za
  have r4:=hx.row.cell 4 Za
  have r5:=hx.row.cell 5 Za
  have r6:=hx.row.cell 6 Za
  simp only [vec,zdd,List.getD_cons_zero,List.getD_cons_succ] at r0 r1 r2 r3 r4 r5 r6
  have F7:=fr7 (w:=X) (z:=z) (.int .i64 (wCode Y (x.rs k))) (.int .i64 (nxB Y (x.rs k)).now) (.int .i64 (nxB Y (x.rs k)).floor) (.slice b1 (nxB Y (x.rs k)).on e1) (.slice b2 (nxB Y (x.rs k)).hn e2) (.slice b3 (nxB Y (x.rs k)).tn e3) (.int .i64 ve)
  have R7:=row7 (v0:=.int .i64 (wCode Y (x.rs k))) (v1:=.int .i64 (nxB Y (x.rs k)).now) (v2:=.int .i64 (nxB Y (x.rs k)).floor) (v3:=.slice b1 (nxB Y (x.rs k)).on e1) (v4:=.slice b2 (nxB Y (x.rs k)).hn e2) (v5:=.slice b3 (nxB Y (x.rs k)).tn e3) (v6:=.int .i64 ve) hx.row
  have hb7:=F7.below (B:=W.1.size) (fun q hq e=>by have e':q=z:=e;omega) zX
  have h:=hK ⟨#[p0,p1,p2,.pointer (some ⟨s0+1,0,none⟩),p4,p5,p6,p7,p8,p9,p10,.pointer (some ⟨zn,0,none⟩),.int .i64 (k:Nat),.pointer (some ⟨z,0,none⟩),p14,p15,p16,p17,p18,p19,p20,p21,p22,p23,p24,p25,p26,p27,p28,p29,p30,p31,p32,p33,p34,p35,p36,p37,p38,p39,p40,p41,p42,p43,p44,p45,p46,p47,p48,p49,p50,p51,p52,p53,p54,p55,p56,p57,p58,p59,p60,p61,p62,p63,p64,p65,p66,p67,p68,p69,p70,p71,p72,p73,p74,p75,p76,p77,p78,p79,p80,p81,p82,p83,p84,p85,p86,p87,p88,p89,p90,p91,p92,p93,p94,p95,p96,p97,p98,p99,p100,p101,p102,p103,p104,p105,p106,p107,p108,p109,p110,p111,p112,p113,p114,p115,p116,p117,p118,p119,p120,p121,t 0,t 1,t 2,t 3,t 4,t 5,t 6,p129,p130,p131,p132,p133,p134,p135,p136,p137,p138,p139,p140,p141,p142],[]⟩ _ ⟨t,z,b1,b2,b3,e1,e2,e3,ve,rfl,hb.trans hb7,hz,R7.lt,fun j hj=>R7.cell j hj,(hd.box F7 hx.no Zbt).upTo F7.size⟩
  refine wpOp_of rfl rfl ?_
  have H:=hid h
  clear hK hg h F7 R7 hb7
  go_simp
  simpa [updT,ez,ed] using H.out
 ·rintro a X ⟨t,z,b1,b2,b3,e1,e2,e3,ve,rfl,hp⟩
  exact hQ t z b1 b2 b3 e1 e2 e3 ve X hp
def NoS (w:World) (z:Nat):Prop:=∀ j s,¬w.cell? ⟨z,j,none⟩=some (.string s)
theorem NoS.below {w w':World} {z n:Nat} (h:NoS w z) (hb:Below n w w') (hz:z<n):NoS w' z:=fun j s e=>h j s (by rw [←hb.cell (p:=⟨z,j,none⟩) hz];exact e)
theorem NoS.set {w:World} {z o:Nat} {u v:Value} (h:NoS w z) (hc:w.cell? ⟨z,o,none⟩=some u) (hv:∀ s,¬v=.string s):NoS (w.setCell ⟨z,o,none⟩ v) z:=fun j s e=>by
 by_cases q:j=o
 ·subst q
  rw [World.cell?_setCell_same _ _ _ hc] at e
  exact hv s (Option.some.inj e)
 ·rw [World.cell?_setCell_other _ _ _ _ (fun a=>q (by injection a with _ b _;exact b.symm))] at e
  exact h j s e
theorem nos_new (w:World) (B:Bk) (a1 a2 a3:Option Addr) (c1 c2 c3:Nat):NoS (w.alloc (.cells #[.int .i64 B.now,.int .i64 B.floor,.slice a1 B.on c1,.slice a2 B.hn c2,.slice a3 B.tn c3] 35)) w.1.size:=fun j s e=>by
 rw [World.cell?_alloc_new] at e
 match j,e with
 | 0,e=>cases e
 | 1,e=>cases e
 | 2,e=>cases e
 | 3,e=>cases e
 | 4,e=>cases e
 | n+5,e=>simp at e
theorem fr5 {w:World} {z:Nat} (v0 v1 v2 v3 v4:Value):FrP (fun q=>q=z) w (((((w.setCell ⟨z,0,none⟩ v0).setCell ⟨z,1,none⟩ v1).setCell ⟨z,2,none⟩ v2).setCell ⟨z,3,none⟩ v3).setCell ⟨z,4,none⟩ v4):=
 (((((FrP.refl (fun q=>q=z) w).setCell (p:=⟨z,0,none⟩) rfl v0).setCell (p:=⟨z,1,none⟩) rfl v1).setCell (p:=⟨z,2,none⟩) rfl v2).setCell (p:=⟨z,3,none⟩) rfl v3).setCell (p:=⟨z,4,none⟩) rfl v4
theorem nos5 {w:World} {z:Nat} {c:Nat→Value} (h:NoS w z) (hr:RowF w z 5 c) (B:Bk) (a1 a2 a3:Option Addr) (c1 c2 c3:Nat):NoS (((((w.setCell ⟨z,0,none⟩ (.int .i64 B.now)).setCell ⟨z,1,none⟩ (.int .i64 B.floor)).setCell ⟨z,2,none⟩ (.slice a1 B.on c1)).setCell ⟨z,3,none⟩ (.slice a2 B.hn c2)).setCell ⟨z,4,none⟩ (.slice a3 B.tn c3)) z:=by
 have r1:=hr.set (o:=0) Za (.int .i64 B.now)
 have r2:=r1.set (o:=1) Za (.int .i64 B.floor)
 have r3:=r2.set (o:=2) Za (.slice a1 B.on c1)
 have r4:=r3.set (o:=3) Za (.slice a2 B.hn c2)
 exact ((((h.set (hr.cell 0 Za) (fun s e=>by cases e)).set (r1.cell 1 Za) (fun s e=>by cases e)).set (r2.cell 2 Za) (fun s e=>by cases e)).set (r3.cell 3 Za) (fun s e=>by cases e)).set (r4.cell 4 Za) (fun s e=>by cases e)
theorem apP490 {P:Prop} (h:P:=by
  refine ret53 (row7 HS.out.ans.row) rfl rfl (als_no HN.out ⟨?_,a1,a2,a3,c1,c2,c3,rfl,?_⟩)
  ·exact HB.out.trans ((fr7 (.int .i64 2) (.int .i64 B.now) (.int .i64 B.floor) (.slice a1 B.on c1) (.slice a2 B.hn c2) (.slice a3 B.tn c3) (.int .i64 0)).below (fun q hq e=>by have e':q=w.1.size+1+1:=e;omega) zb)
  ·exact ((HS.out.bin.below ((fr7 (.int .i64 2) (.int .i64 B.now) (.int .i64 B.floor) (.slice a1 B.on c1) (.slice a2 B.hn c2) (.slice a3 B.tn c3) (.int .i64 0)).below (B:=w.1.size) (fun q hq e=>by have e':q=w.1.size+1+1:=e;omega) zb) Zbt)).upTo (by simp only [World.size_setCell];omega)):P:=h
theorem apP491 {P:Prop} (h:P:=by
  clear hwk
  go_wp2_with (go_at_call 110;refine (nameOk_any _ _ (by first|exact fk.z0|exact fk.z1)).mono ?_;rintro e w9 ⟨rfl,rfl⟩;first|rw [nk]|rw [nn])
  exact apP490):P:=h
theorem l3_go (B:Bk) (x:Bu) (a1 a2 a3:Option Addr) (c1 c2 c3:Nat) (u1 u2:Option Addr) (d1 d2:Nat) (w:World) (hf:BkFit B) (hv:allTo (chk B) 7=true) (hu:BuFit x) (hbk:BkIn w 0 w.1.size B a1 a2 a3) (hbu:BuIn w 0 w.1.size x u1 u2) (hw:x.wn≤10) (hr:x.rn≤10) :
  Calls Tryz.prog 53 #[.agg #[.int .i64 B.now,.int .i64 B.floor,.slice a1 B.on c1,.slice a2 B.hn c2,.slice a3 B.tn c3],.agg #[.slice u1 x.wn d1,.slice u2 x.rn d2]] w fun e w'=>AlS B x w e w':=by
 have hs:=a3_new w B a1 a2 a3 c1 c2 c3 x u1 u2 d1 d2 hbk hbu
 have hb:=(((Below.refl w.1.size w).alloc Zbt (.cells #[.int .i64 B.now,.int .i64 B.floor,.slice a1 B.on c1,.slice a2 B.hn c2,.slice a3 B.tn c3] 35)).alloc Zd (.cells #[.slice u1 x.wn d1,.slice u2 x.rn d2] 57)).alloc Zc (.cells #[.int .i64 0,.int .i64 0,.int .i64 0,.slice none 0 0,.slice none 0 0,.slice none 0 0,.int .i64 0] 37)
 have HF:=hid hf
 have HV:=hid hv
 have HU:=hid hu
 clear hf hv hu
 go_enter Tryz.func53,Tryz.ntmps53
 go_upto_region 1 with fail
 generalize (((w.alloc (.cells #[.int .i64 B.now,.int .i64 B.floor,.slice a1 B.on c1,.slice a2 B.hn c2,.slice a3 B.tn c3] 35)).alloc (.cells #[.slice u1 x.wn d1,.slice u2 x.rn d2] 57)).alloc (.cells #[.int .i64 0,.int .i64 0,.int .i64 0,.slice none 0 0,.slice none 0 0,.slice none 0 0,.int .i64 0] 37))=W1 at hs hb ⊢
 have HS:=hid hs
 have HB:=hid hb
 clear hs hb hbk hbu
 have q0:=HS.out.bu 0 Zd
 have q1:=HS.out.bu 1 Zd
 simp only [vec,List.getD_cons_zero,List.getD_cons_succ] at q0 q1
 go_wp2
 clear q0 q1
 go_loopw [6] (fun i wr=>∃ k:Nat,k≤x.wn∧i=.int .i64 k∧Hid (∀ j,j<k→wtB (x.ws j)=true)∧Hid (A3 wr w.1.size B a1 a2 a3 c1 c2 c3 x u1 u2 d1 d2)∧Hid (Below w.1.size w wr)) (fun i _=>x.wn-(intOf i).toNat)
 case atStart=>exact ⟨0,Nat.zero_le _,rfl,hid (fun j hj=>absurd hj (Nat.not_lt_zero _)),HS,HB⟩
 case round=>
  clear HS HB
  obtain ⟨k,hk,rfl,HA,HS,HB⟩:=hrel
  by_cases hkn:k<x.wn
  ·obtain ⟨b,off,hu1,hlo,hbh,hcx⟩:=HS.out.uin.wt k hkn
   subst hu1
   obtain ⟨e0,e1,e2⟩:=hcx
   have fk:=HU.out.ws k hkn
   have p0:=HS.out.bk 0 Zd
   have p1:=HS.out.bk 1 Zd
   have p2:=HS.out.bk 2 Zd
   have p3:=HS.out.bk 3 Zd
   have p4:=HS.out.bk 4 Zd
   have q0:=HS.out.bu 0 Zd
   have q1:=HS.out.bu 1 Zd
   have r0:=HS.out.ans.row.cell 0 Za
   have r1:=HS.out.ans.row.cell 1 Za
   have r2:=HS.out.ans.row.cell 2 Za
   have r3:=HS.out.ans.row.cell 3 Za
   have r4:=HS.out.ans.row.cell 4 Za
   have r5:=HS.out.ans.row.cell 5 Za
   have r6:=HS.out.ans.row.cell 6 Za
   have rf:=HS.out.ans.row.free
   have rz:=HS.out.ans.row.lt
   simp only [vec,zdd,List.getD_cons_zero,List.getD_cons_succ] at p0 p1 p2 p3 p4 q0 q1 r0 r1 r2 r3 r4 r5 r6
   have zz:=HS.out.ans.row.lt
   have zb:=HB.out.size
   cases hwk:wtB (x.ws k) with
   | false=>
    have HN:=hid (bu_no2 hkn hwk)
    rcases nameB_wt hwk with nk|⟨nk,nn⟩|⟨nk,nn,h0⟩
    ·exact apP491
    ·exact apP491
    ·exact apP491
   | true=>
    have HK:=hid hwk
    have nk:nameB (x.ws k).kind=true:=by unfold wtB at hwk;simp only [Bool.and_eq_true] at hwk;exact hwk.1
    have nn:nameB (x.ws k).name=true:=by unfold wtB at hwk;simp only [Bool.and_eq_true] at hwk;exact hwk.2.1
    have h0:0≤(x.ws k).ver:=by unfold wtB at hwk;simp only [Bool.and_eq_true,decide_eq_true_eq] at hwk;exact hwk.2.2
    clear hwk
    go_wp2_with (go_at_call 110;refine (nameOk_any _ _ (by first|exact fk.z0|exact fk.z1)).mono ?_;rintro e w9 ⟨rfl,rfl⟩;first|rw [nk]|rw [nn])
    go_roundw
    case rel=>exact ⟨k+1,Za,by go_num,hid (fun j hj=>by
     rcases Nat.lt_or_ge j k with q|q
     ·exact HA.out j q
     ·obtain rfl:j=k:=Za
      exact HK.out),HS,HB⟩
    case measure=>simp [intOf];omega
  ·have hA1:=hid (show ∀ j,j<x.wn→wtB (x.ws j)=true from fun j hj=>HA.out j Za)
   clear HA
   have q0:=HS.out.bu 0 Zd
   have q1:=HS.out.bu 1 Zd
   simp only [vec,List.getD_cons_zero,List.getD_cons_succ] at q0 q1
   go_wp2
   clear q0 q1 hkn hk
   go_loopw [7] (fun i wr=>∃ k:Nat,k≤x.rn∧i=.int .i64 k∧Hid (∀ j,j<k→wrB (x.rs j)=true)∧Hid (A3 wr w.1.size B a1 a2 a3 c1 c2 c3 x u1 u2 d1 d2)∧Hid (Below w.1.size w wr)) (fun i _=>x.rn-(intOf i).toNat)
   case atStart=>exact ⟨0,Nat.zero_le _,rfl,hid (fun j hj=>absurd hj (Nat.not_lt_zero _)),HS,HB⟩
   case round=>
    clear HS HB
    obtain ⟨k,hk,rfl,HA,HS,HB⟩:=hrel
    by_cases hkn:k<x.rn
    ·obtain ⟨b,off,hu1,hlo,hbh,hcx⟩:=HS.out.uin.wr k hkn
     subst hu1
     obtain ⟨e0,e1,e2,e3,e4,e5⟩:=hcx
     have fk:=HU.out.rs k hkn
     have q0:=HS.out.bu 0 Zd
     have q1:=HS.out.bu 1 Zd
     simp only [vec,List.getD_cons_zero,List.getD_cons_succ] at q0 q1
     have zz:=HS.out.ans.row.lt
     have zb:=HB.out.size
     cases nk:wrB (x.rs k) with
     | false=>
      have HN:=hid (bu_no3 hkn nk)
      go_wp2_with fail
      refine (writeOk_any (x.rs k) fk _).mono ?_
      rintro e w9 ⟨rfl,hb9⟩
      rw [nk]
      have HS0:=hid (HS.out.below hb9)
      have HB0:=hid (HB.out.trans (hb9.mono HB.out.size))
      clear HS HB hb9 q0 q1 zz zb e0 e1 e2 e3 e4 e5 nk
      have HS:=HS0
      have HB:=HB0
      clear HS0 HB0
      have p0:=HS.out.bk 0 Zd
      have p1:=HS.out.bk 1 Zd
      have p2:=HS.out.bk 2 Zd
      have p3:=HS.out.bk 3 Zd
      have p4:=HS.out.bk 4 Zd
      have r0:=HS.out.ans.row.cell 0 Za
      have r1:=HS.out.ans.row.cell 1 Za
      have r2:=HS.out.ans.row.cell 2 Za
      have r3:=HS.out.ans.row.cell 3 Za
      have r4:=HS.out.ans.row.cell 4 Za
      have r5:=HS.out.ans.row.cell 5 Za
      have r6:=HS.out.ans.row.cell 6 Za
      have rf:=HS.out.ans.row.free
      have rz:=HS.out.ans.row.lt
      simp only [vec,zdd,List.getD_cons_zero,List.getD_cons_succ] at p0 p1 p2 p3 p4 r0 r1 r2 r3 r4 r5 r6
      have zz:=HS.out.ans.row.lt
      have zb:=HB.out.size
      go_wp2
      exact apP490
     | true=>
      go_wp2_with fail
      refine (writeOk_any (x.rs k) fk _).mono ?_
      rintro e w9 ⟨rfl,hb9⟩
      rw [nk]
      have HS0:=hid (HS.out.below hb9)
      have HB0:=hid (HB.out.trans (hb9.mono HB.out.size))
      have HK:=hid nk
      clear HS HB hb9 q0 q1 zz zb e0 e1 e2 e3 e4 e5 nk
      go_wp2
      go_roundw
      case rel=>exact ⟨k+1,Za,by go_num,hid (fun j hj=>by
       rcases Nat.lt_or_ge j k with q|q
       ·exact HA.out j q
       ·obtain rfl:j=k:=Za
        exact HK.out),HS0,HB0⟩
      case measure=>simp [intOf];omega
    ·have hA2:=hid (show ∀ j,j<x.rn→wrB (x.rs j)=true from fun j hj=>HA.out j Za)
     clear HA
     have HY:=hid (bu_yes hw hr hA1.out hA2.out)
     have HO:=hid (buOk_of HY.out)
     clear hA1 hA2
     have q0:=HS.out.bu 0 Zd
     have q1:=HS.out.bu 1 Zd
     simp only [vec,List.getD_cons_zero,List.getD_cons_succ] at q0 q1
     go_wp2
     clear q0 q1 hkn hk
     go_loopw [8] (fun i wr=>∃ k:Nat,k≤x.wn∧i=.int .i64 k∧Hid (∀ j,j<k→wtOk B (x.ws j)=true)∧Hid (A3 wr w.1.size B a1 a2 a3 c1 c2 c3 x u1 u2 d1 d2)∧Hid (Below w.1.size w wr)) (fun i _=>x.wn-(intOf i).toNat)
     case atStart=>exact ⟨0,Nat.zero_le _,rfl,hid (fun j hj=>absurd hj (Nat.not_lt_zero _)),HS,HB⟩
     case round=>
      clear HS HB
      obtain ⟨k,hk,rfl,HA,HS,HB⟩:=hrel
      by_cases hkn:k<x.wn
      ·obtain ⟨b,off,hu1,hlo,hbh,hcx⟩:=HS.out.uin.wt k hkn
       subst hu1
       clear hcx
       have q0:=HS.out.bu 0 Zd
       have q1:=HS.out.bu 1 Zd
       simp only [vec,List.getD_cons_zero,List.getD_cons_succ] at q0 q1
       have zz:=HS.out.ans.row.lt
       have zb:=HB.out.size
       go_wp2
       clear q0 q1 zz zb
       refine l3Reg16 _ _ _ _ _ _ _ _ _ _ _ _ _ _ _ _ _ _ _ _ _ _ _ _ _ _ _ _ _ _ _ _ _ _ _ _ _ _ _ _ _ _ _ _ _ _ _ _ _ _ _ _ _ _ _ _ _ _ _ _ _ _ _ _ _ _ _ _ _ _ _ _ _ _ _ _ _ _ _ _ _ _ _ _ _ _ _ _ _ _ _ _ _ _ _ _ _ _ _ _ _ _ _ _ _ _ _ _ _ _ _ _ _ _ _ _ _ _ _ _ _ _ _ _ _ _ _ _ _ _ _ _ _ _ _ _ _ _ _ undef _ w.1.size B a1 a2 a3 c1 c2 c3 x k b off d1 u2 d2 wr HS.out hkn Za HF.out _ ?_
       intro t z X hbX hzX hver
       have HS0:=hid (HS.out.below hbX)
       have HB0:=hid (HB.out.trans (hbX.mono HB.out.size))
       clear HS HB hbX
       have HS:=HS0
       have HB:=HB0
       clear HS0 HB0
       obtain ⟨b9,off9,h9,_,_,hcx⟩:=HS.out.uin.wt k hkn
       cases h9
       obtain ⟨e0,e1,e2⟩:=hcx
       have p0:=HS.out.bk 0 Zd
       have p1:=HS.out.bk 1 Zd
       have p2:=HS.out.bk 2 Zd
       have p3:=HS.out.bk 3 Zd
       have p4:=HS.out.bk 4 Zd
       have q0:=HS.out.bu 0 Zd
       have q1:=HS.out.bu 1 Zd
       have r0:=HS.out.ans.row.cell 0 Za
       have r1:=HS.out.ans.row.cell 1 Za
       have r2:=HS.out.ans.row.cell 2 Za
       have r3:=HS.out.ans.row.cell 3 Za
       have r4:=HS.out.ans.row.cell 4 Za
       have r5:=HS.out.ans.row.cell 5 Za
       have r6:=HS.out.ans.row.cell 6 Za
       have rf:=HS.out.ans.row.free
       have rz:=HS.out.ans.row.lt
       simp only [vec,zdd,List.getD_cons_zero,List.getD_cons_succ] at p0 p1 p2 p3 p4 q0 q1 r0 r1 r2 r3 r4 r5 r6
       have zz:=HS.out.ans.row.lt
       have zb:=HB.out.size
       by_cases hok:(fndOb B.os (x.ws k).kind (x.ws k).name B.on).ver=(x.ws k).ver
       ·have HK:=hid (show wtOk B (x.ws k)=true from decide_eq_true hok)
        have hbn:((fndOb B.os (x.ws k).kind (x.ws k).name B.on).ver != (x.ws k).ver)=false:=by simp [hok]
        clear hok
        go_wp2
        go_quiet (fail)
        go_wp2
        go_roundw
        case rel=>exact ⟨k+1,Za,by go_num,hid (fun j hj=>by
         rcases Nat.lt_or_ge j k with q|q
         ·exact HA.out j q
         ·obtain rfl:j=k:=Za
          exact HK.out),hid (HS.out.below (below_drewN' _ _)),hid (HB.out.trans ((below_drewN' _ _).mono HB.out.size))⟩
        case measure=>simp [intOf];omega
       ·have HK:=hid (show wtOk B (x.ws k)=false from decide_eq_false hok)
        have hbn:((fndOb B.os (x.ws k).kind (x.ws k).name B.on).ver != (x.ws k).ver)=true:=by simp [hok]
        clear hok
        go_wp2
        go_quiet (fail)
        have HS0:=hid (HS.out.below (below_drewN' X nq))
        have HB0:=hid (HB.out.trans ((below_drewN' X nq).mono HB.out.size))
        clear HS HB p0 p1 p2 p3 p4 q0 q1 r0 r1 r2 r3 r4 r5 r6 rf rz zz zb e0 e1 e2 hver
        have HS:=HS0
        have HB:=HB0
        clear HS0 HB0
        have p0:=HS.out.bk 0 Zd
        have p1:=HS.out.bk 1 Zd
        have p2:=HS.out.bk 2 Zd
        have p3:=HS.out.bk 3 Zd
        have p4:=HS.out.bk 4 Zd
        have q0:=HS.out.bu 0 Zd
        have q1:=HS.out.bu 1 Zd
        have r0:=HS.out.ans.row.cell 0 Za
        have r1:=HS.out.ans.row.cell 1 Za
        have r2:=HS.out.ans.row.cell 2 Za
        have r3:=HS.out.ans.row.cell 3 Za
        have r4:=HS.out.ans.row.cell 4 Za
        have r5:=HS.out.ans.row.cell 5 Za
        have r6:=HS.out.ans.row.cell 6 Za
        have rf:=HS.out.ans.row.free
        have rz:=HS.out.ans.row.lt
        simp only [vec,zdd,List.getD_cons_zero,List.getD_cons_succ] at p0 p1 p2 p3 p4 q0 q1 r0 r1 r2 r3 r4 r5 r6
        have zz:=HS.out.ans.row.lt
        have zb:=HB.out.size
        go_wp2
        refine ret53 (row7 HS.out.ans.row) rfl rfl (als_want HY.out hkn HA.out HK.out ⟨?_,a1,a2,a3,c1,c2,c3,rfl,?_⟩)
        ·exact HB.out.trans ((fr7 (.int .i64 9) (.int .i64 B.now) (.int .i64 B.floor) (.slice a1 B.on c1) (.slice a2 B.hn c2) (.slice a3 B.tn c3) (.int .i64 0)).below (fun q hq e=>by have e':q=w.1.size+1+1:=e;omega) zb)
        ·exact ((HS.out.bin.below ((fr7 (.int .i64 9) (.int .i64 B.now) (.int .i64 B.floor) (.slice a1 B.on c1) (.slice a2 B.hn c2) (.slice a3 B.tn c3) (.int .i64 0)).below (B:=w.1.size) (fun q hq e=>by have e':q=w.1.size+1+1:=e;omega) zb) Zbt)).upTo (by simp only [World.size_setCell];omega)
      ·have hA3:=hid (show ∀ j,j<x.wn→wtOk B (x.ws j)=true from fun j hj=>HA.out j Za)
       clear HA
       have p0:=HS.out.bk 0 Zd
       have p1:=HS.out.bk 1 Zd
       have p2:=HS.out.bk 2 Zd
       have p3:=HS.out.bk 3 Zd
       have p4:=HS.out.bk 4 Zd
       have q0:=HS.out.bu 0 Zd
       have q1:=HS.out.bu 1 Zd
       simp only [vec,List.getD_cons_zero,List.getD_cons_succ] at p0 p1 p2 p3 p4 q0 q1
       have zz:=HS.out.ans.row.lt
       have zb:=HB.out.size
       go_wp2
       clear p0 p1 p2 p3 p4 q0 q1 hkn hk
       have hs4:=HS.out.below (below_alloc wr (.cells #[.int .i64 B.now,.int .i64 B.floor,.slice a1 B.on c1,.slice a2 B.hn c2,.slice a3 B.tn c3] 35))
       have hb4:=HB.out.alloc HB.out.size (.cells #[.int .i64 B.now,.int .i64 B.floor,.slice a1 B.on c1,.slice a2 B.hn c2,.slice a3 B.tn c3] 35)
       have hn4:RowF (wr.alloc (.cells #[.int .i64 B.now,.int .i64 B.floor,.slice a1 B.on c1,.slice a2 B.hn c2,.slice a3 B.tn c3] 35)) wr.1.size 5 (vec [.int .i64 B.now,.int .i64 B.floor,.slice a1 B.on c1,.slice a2 B.hn c2,.slice a3 B.tn c3]):=RowF.new (l:=[.int .i64 B.now,.int .i64 B.floor,.slice a1 B.on c1,.slice a2 B.hn c2,.slice a3 B.tn c3]) (t:=35) Zbv
       have hq4:NoS (wr.alloc (.cells #[.int .i64 B.now,.int .i64 B.floor,.slice a1 B.on c1,.slice a2 B.hn c2,.slice a3 B.tn c3] 35)) wr.1.size:=nos_new wr B a1 a2 a3 c1 c2 c3
       have hi4:BkIn (wr.alloc (.cells #[.int .i64 B.now,.int .i64 B.floor,.slice a1 B.on c1,.slice a2 B.hn c2,.slice a3 B.tn c3] 35)) 0 (wr.alloc (.cells #[.int .i64 B.now,.int .i64 B.floor,.slice a1 B.on c1,.slice a2 B.hn c2,.slice a3 B.tn c3] 35)).1.size B a1 a2 a3:=(hs4.bin.below (Below.refl (wr.alloc (.cells #[.int .i64 B.now,.int .i64 B.floor,.slice a1 B.on c1,.slice a2 B.hn c2,.slice a3 B.tn c3] 35)).1.size _) Zc).upTo Zc
       generalize hW4:wr.alloc (.cells #[.int .i64 B.now,.int .i64 B.floor,.slice a1 B.on c1,.slice a2 B.hn c2,.slice a3 B.tn c3] 35)=W4 at hs4 hb4 hn4 hq4 hi4 ⊢
       obtain ⟨zn,hzn⟩:∃ zn,wr.1.size=zn:=⟨_,rfl⟩
       rw [hzn] at hn4 hq4 zz ⊢
       have HSN:=hid hs4
       have HBN:=hid hb4
       have HNN:=hid (show ∃ (y1 y2 y3:Option Addr) (f1 f2 f3:Nat),RowF W4 zn 5 (vec [.int .i64 (runB B x.rs 0).now,.int .i64 (runB B x.rs 0).floor,.slice y1 (runB B x.rs 0).on f1,.slice y2 (runB B x.rs 0).hn f2,.slice y3 (runB B x.rs 0).tn f3])∧NoS W4 zn∧BkIn W4 0 W4.1.size (runB B x.rs 0) y1 y2 y3 from ⟨a1,a2,a3,c1,c2,c3,hn4,hq4,hi4⟩)
       clear hs4 hb4 hn4 hq4 hi4 hW4 hzn HS HB zb
       have HS:=HSN
       have HB:=HBN
       clear HSN HBN
       go_loopw [12] (fun i wr=>∃ k:Nat,k≤x.rn∧i=.int .i64 k∧Hid (∀ j,j<k→wrOk B x j=true)∧Hid (A3 wr w.1.size B a1 a2 a3 c1 c2 c3 x u1 u2 d1 d2)∧Hid (Below w.1.size w wr)∧Hid (∃ (y1 y2 y3:Option Addr) (f1 f2 f3:Nat),RowF wr zn 5 (vec [.int .i64 (runB B x.rs k).now,.int .i64 (runB B x.rs k).floor,.slice y1 (runB B x.rs k).on f1,.slice y2 (runB B x.rs k).hn f2,.slice y3 (runB B x.rs k).tn f3])∧NoS wr zn∧BkIn wr 0 wr.1.size (runB B x.rs k) y1 y2 y3)) (fun i _=>x.rn-(intOf i).toNat)
       case atStart=>exact ⟨0,Nat.zero_le _,rfl,hid (fun j hj=>absurd hj (Nat.not_lt_zero _)),HS,HB,HNN⟩
       case round=>
        clear HS HB HNN
        obtain ⟨k,hk,rfl,HA,HS,HB,HNN⟩:=hrel
        obtain ⟨y1,y2,y3,f1,f2,f3,hrow,hno,hin⟩:=HNN.out
        clear HNN
        by_cases hkn:k<x.rn
        ·obtain ⟨b,off,hu2,hlo,hbh,hcx⟩:=HS.out.uin.wr k hkn
         subst hu2
         clear hcx
         have HOK:=hid (run_ok HF.out HV.out HU.out HO.out k hkn HA.out)
         have HROW:=hid hrow
         have HNO:=hid hno
         have HIN:=hid hin
         clear hrow hno hin
         have q0:=HS.out.bu 0 Zd
         have q1:=HS.out.bu 1 Zd
         simp only [vec,List.getD_cons_zero,List.getD_cons_succ] at q0 q1
         have zz:=HS.out.ans.row.lt
         have zb:=HB.out.size
         go_wp2
         clear q0 q1 zb
         refine l3Reg23 _ _ _ _ _ _ _ _ _ _ _ _ _ _ _ _ _ _ _ _ _ _ _ _ _ _ _ _ _ _ _ _ _ _ _ _ _ _ _ _ _ _ _ _ _ _ _ _ _ _ _ _ _ _ _ _ _ _ _ _ _ _ _ _ _ _ _ _ _ _ _ _ _ _ _ _ _ _ _ _ _ _ _ _ _ _ _ _ _ _ _ _ _ _ _ _ _ _ _ _ _ _ _ _ _ _ _ _ _ _ _ _ _ _ _ _ _ _ _ _ _ _ _ _ _ _ _ _ _ _ _ _ _ _ _ _ _ _ _ _ undef w.1.size zn (runB B x.rs k) y1 y2 y3 f1 f2 f3 x k b off d2 B a1 a2 a3 c1 c2 c3 u1 d1 wr HS.out hkn Za HOK.out HROW.out.lt (fun j hj=>HROW.out.cell j hj) HIN.out _ ?_
         rintro t z b1 b2 b3 e1 e2 e3 ve X ⟨hbX,hz,hzX,hdd,hinX⟩
         have HS0:=hid (HS.out.below hbX)
         have HB0:=hid (HB.out.trans (hbX.mono HB.out.size))
         have HROW0:=hid (HROW.out.below hbX HROW.out.lt)
         have HNO0:=hid (HNO.out.below hbX HROW.out.lt)
         have HINX:=hid hinX
         obtain ⟨g0,g1,g2,g3,g4,g5,g6⟩:=holds_dd hdd
         clear HS HB hbX HROW HNO HIN hinX hdd hz
         have HS:=HS0
         have HB:=HB0
         clear HS0 HB0
         by_cases hc:wCode (runB B x.rs k) (x.rs k)=0
         ·have e9:(nxB (runB B x.rs k) (x.rs k))=runB B x.rs (k+1):=if_pos hc
          rw [e9] at g1 g2 g3 g4 g5 HINX
          rw [hc] at g0
          have HK:=hid (show wrOk B x k=true from decide_eq_true hc)
          clear hc e9
          have m0:=HROW0.out.cell 0 Za
          have m1:=HROW0.out.cell 1 Za
          have m2:=HROW0.out.cell 2 Za
          have m3:=HROW0.out.cell 3 Za
          have m4:=HROW0.out.cell 4 Za
          simp only [vec,List.getD_cons_zero,List.getD_cons_succ] at m0 m1 m2 m3 m4
          have mf:=HROW0.out.free
          have ml:=HROW0.out.lt
          generalize hY9:runB B x.rs (k+1)=Y9 at g1 g2 g3 g4 g5 HINX
          have HY9:=hid hY9
          clear hY9
          go_wp2
          go_roundw
          case rel=>
           refine ⟨k+1,Za,by go_num,hid (fun j hj=>by
            rcases Nat.lt_or_ge j k with q|q
            ·exact HA.out j q
            ·obtain rfl:j=k:=Za
             exact HK.out),hid (HS.out.frBox (fr5 (.int .i64 Y9.now) (.int .i64 Y9.floor) (.slice b1 Y9.on e1) (.slice b2 Y9.hn e2) (.slice b3 Y9.tn e3)) (fun q hq=>by have e':q=zn:=hq;omega)),hid (HB.out.trans ((fr5 (.int .i64 Y9.now) (.int .i64 Y9.floor) (.slice b1 Y9.on e1) (.slice b2 Y9.hn e2) (.slice b3 Y9.tn e3)).below (fun q hq e=>by have e':q=zn:=e;have:=HB.out.size;omega) HB.out.size)),?_⟩
           rw [HY9.out]
           exact hid ⟨b1,b2,b3,e1,e2,e3,row5 HROW0.out,nos5 HNO0.out HROW0.out Y9 b1 b2 b3 e1 e2 e3,(HINX.out.box (fr5 (.int .i64 Y9.now) (.int .i64 Y9.floor) (.slice b1 Y9.on e1) (.slice b2 Y9.hn e2) (.slice b3 Y9.tn e3)) HNO0.out Zbt).upTo (FrP.size (fr5 (.int .i64 Y9.now) (.int .i64 Y9.floor) (.slice b1 Y9.on e1) (.slice b2 Y9.hn e2) (.slice b3 Y9.tn e3)))⟩
          case measure=>simp [intOf];omega
         ·have HC:=hid hc
          have zb:=HB.out.size
          have zz2:=HS.out.ans.row.lt
          have p0:=HS.out.bk 0 Zd
          have p1:=HS.out.bk 1 Zd
          have p2:=HS.out.bk 2 Zd
          have p3:=HS.out.bk 3 Zd
          have p4:=HS.out.bk 4 Zd
          have r0:=HS.out.ans.row.cell 0 Za
          have r1:=HS.out.ans.row.cell 1 Za
          have r2:=HS.out.ans.row.cell 2 Za
          have r3:=HS.out.ans.row.cell 3 Za
          have r4:=HS.out.ans.row.cell 4 Za
          have r5:=HS.out.ans.row.cell 5 Za
          have r6:=HS.out.ans.row.cell 6 Za
          have rf:=HS.out.ans.row.free
          have rz:=HS.out.ans.row.lt
          simp only [vec,zdd,List.getD_cons_zero,List.getD_cons_succ] at p0 p1 p2 p3 p4 r0 r1 r2 r3 r4 r5 r6
          go_wp2
          refine ret53 (row7 HS.out.ans.row) rfl rfl (als_write HY.out hA3.out hkn HA.out HC.out ⟨?_,a1,a2,a3,c1,c2,c3,rfl,?_⟩)
          ·exact HB.out.trans ((fr7 (.int .i64 (wCode (runB B x.rs k) (x.rs k))) (.int .i64 B.now) (.int .i64 B.floor) (.slice a1 B.on c1) (.slice a2 B.hn c2) (.slice a3 B.tn c3) (.int .i64 0)).below (fun q hq e=>by have e':q=w.1.size+1+1:=e;omega) zb)
          ·exact ((HS.out.bin.below ((fr7 (.int .i64 (wCode (runB B x.rs k) (x.rs k))) (.int .i64 B.now) (.int .i64 B.floor) (.slice a1 B.on c1) (.slice a2 B.hn c2) (.slice a3 B.tn c3) (.int .i64 0)).below (B:=w.1.size) (fun q hq e=>by have e':q=w.1.size+1+1:=e;omega) zb) Zbt)).upTo (by simp only [World.size_setCell];omega)
        ·have HA4:=hid (show ∀ j,j<x.rn→wrOk B x j=true from fun j hj=>HA.out j Za)
         have HE:=hid (show runB B x.rs k=(runB B x.rs x.rn) by rw [show k=x.rn by omega])
         rw [HE.out] at hrow hin
         have HROW:=hid hrow
         have HIN:=hid hin
         clear hrow hno hin HA
         have zb:=HB.out.size
         have zz2:=HS.out.ans.row.lt
         have p0:=HS.out.bk 0 Zd
         have p1:=HS.out.bk 1 Zd
         have p2:=HS.out.bk 2 Zd
         have p3:=HS.out.bk 3 Zd
         have p4:=HS.out.bk 4 Zd
         have q0:=HS.out.bu 0 Zd
         have q1:=HS.out.bu 1 Zd
         have r0:=HS.out.ans.row.cell 0 Za
         have r1:=HS.out.ans.row.cell 1 Za
         have r2:=HS.out.ans.row.cell 2 Za
         have r3:=HS.out.ans.row.cell 3 Za
         have r4:=HS.out.ans.row.cell 4 Za
         have r5:=HS.out.ans.row.cell 5 Za
         have r6:=HS.out.ans.row.cell 6 Za
         have rf:=HS.out.ans.row.free
         have rz:=HS.out.ans.row.lt
         simp only [vec,zdd,List.getD_cons_zero,List.getD_cons_succ] at p0 p1 p2 p3 p4 q0 q1 r0 r1 r2 r3 r4 r5 r6
         have m0:=HROW.out.cell 0 Za
         have m1:=HROW.out.cell 1 Za
         have m2:=HROW.out.cell 2 Za
         have m3:=HROW.out.cell 3 Za
         have m4:=HROW.out.cell 4 Za
         simp only [vec,List.getD_cons_zero,List.getD_cons_succ] at m0 m1 m2 m3 m4
         go_wp2
         refine ret53 (row7 HS.out.ans.row) rfl rfl (als_done HY.out hA3.out HA4.out ⟨?_,y1,y2,y3,f1,f2,f3,rfl,?_⟩)
         ·exact HB.out.trans ((fr7 (.int .i64 0) (.int .i64 (runB B x.rs x.rn).now) (.int .i64 (runB B x.rs x.rn).floor) (.slice y1 (runB B x.rs x.rn).on f1) (.slice y2 (runB B x.rs x.rn).hn f2) (.slice y3 (runB B x.rs x.rn).tn f3) (.int .i64 (runB B x.rs x.rn).now)).below (fun q hq e=>by have e':q=w.1.size+1+1:=e;omega) zb)
         ·exact (HIN.out.box (fr7 (.int .i64 0) (.int .i64 (runB B x.rs x.rn).now) (.int .i64 (runB B x.rs x.rn).floor) (.slice y1 (runB B x.rs x.rn).on f1) (.slice y2 (runB B x.rs x.rn).hn f2) (.slice y3 (runB B x.rs x.rn).tn f3) (.int .i64 (runB B x.rs x.rn).now)) HS.out.ans.no Zbt).upTo (FrP.size (fr7 (.int .i64 0) (.int .i64 (runB B x.rs x.rn).now) (.int .i64 (runB B x.rs x.rn).floor) (.slice y1 (runB B x.rs x.rn).on f1) (.slice y2 (runB B x.rs x.rn).hn f2) (.slice y3 (runB B x.rs x.rn).tn f3) (.int .i64 (runB B x.rs x.rn).now)))
theorem l3All_any (B:Bk) (x:Bu) (a1 a2 a3:Option Addr) (c1 c2 c3:Nat) (u1 u2:Option Addr) (d1 d2:Nat) (w:World) (hf:BkFit B) (hv:allTo (chk B) 7=true) (hu:BuFit x) (hbk:BkIn w 0 w.1.size B a1 a2 a3) (hbu:BuIn w 0 w.1.size x u1 u2) :
  Calls Tryz.prog 53 #[.agg #[.int .i64 B.now,.int .i64 B.floor,.slice a1 B.on c1,.slice a2 B.hn c2,.slice a3 B.tn c3],.agg #[.slice u1 x.wn d1,.slice u2 x.rn d2]] w fun e w'=>AlS B x w e w':=by
 by_cases h:10<x.wn∨10<x.rn
 ·exact l3_big B x a1 a2 a3 c1 c2 c3 u1 u2 d1 d2 w hbk hbu h
 ·exact l3_go B x a1 a2 a3 c1 c2 c3 u1 u2 d1 d2 w hf hv hu hbk hbu Za Za
theorem als_ans {B:Bk} {x:Bu} {w:World} {e:Ending} {w':World} (hv:allTo (chk B) 7=true) (h:AlS B x w e w'):AnS (allC B x) (allB B x) (allV B x) (allN B x) w e w':=by
 unfold AlS at h
 unfold allC allB allV allN
 rw [if_pos hv,if_pos hv,if_pos hv,if_pos hv]
 cases hb:buB x with
 | true=>
  rw [if_pos hb] at h
  rw [if_pos rfl,if_pos rfl,if_pos rfl,if_pos rfl]
  exact h
 | false=>
  rw [if_neg (by rw [hb];decide)] at h
  rw [if_neg Zb,if_neg Zb,if_neg Zb,if_neg Zb]
  exact h
theorem ret18 {Q:Ending→World→Prop} {tmps:Array Value} {W:World} {b:Nat} {v0 v1 v2 v3 v4 v5 v6:Value} {n:Int} (hr:RowF W b 7 (vec [v0,v1,v2,v3,v4,v5,v6])) (h4:tmps[4]?.getD undef=.pointer (some ⟨b,0,none⟩)) (h5:tmps[5]?.getD undef=.int .i64 n) (hQ:Q (.returned (.tuple #[.agg #[v0,v1,v2,v3,v4,v5,v6],.int .i64 n])) W) :
  bodyPost Tryz.prog Tryz.f18 Q .ret ⟨tmps,[]⟩ W:=by
 have u0:=hr.cell 0 Za
 have u1:=hr.cell 1 Za
 have u2:=hr.cell 2 Za
 have u3:=hr.cell 3 Za
 have u4:=hr.cell 4 Za
 have u5:=hr.cell 5 Za
 have u6:=hr.cell 6 Za
 simp only [vec,List.getD_cons_zero,List.getD_cons_succ] at u0 u1 u2 u3 u4 u5 u6
 exact bodyPost_ret (v:=.tuple #[.agg #[v0,v1,v2,v3,v4,v5,v6],.int .i64 n]) (by simp only [results,Tryz.results18];simp [go_sem,h4,h5,u0,u1,u2,u3,u4,u5,u6]) rfl hQ
theorem fr5at {w:World} {z:Nat} (v0 v1 v2 v3 v4:Value):FrP (fun q=>q=z) w (((((w.setCell ⟨z,1,none⟩ v0).setCell ⟨z,2,none⟩ v1).setCell ⟨z,3,none⟩ v2).setCell ⟨z,4,none⟩ v3).setCell ⟨z,5,none⟩ v4):=
 (((((FrP.refl (fun q=>q=z) w).setCell (p:=⟨z,1,none⟩) rfl v0).setCell (p:=⟨z,2,none⟩) rfl v1).setCell (p:=⟨z,3,none⟩) rfl v2).setCell (p:=⟨z,4,none⟩) rfl v3).setCell (p:=⟨z,5,none⟩) rfl v4
theorem specAll_bad (B:Bk) (x:Bu) (a1 a2 a3:Option Addr) (c1 c2 c3:Nat) (u1 u2:Option Addr) (d1 d2:Nat) (w:World) (hf:BkFit B) (hv:allTo (chk B) 7=false) (hu:BuFit x) (hbk:BkIn w 0 w.1.size B a1 a2 a3) (hbu:BuIn w 0 w.1.size x u1 u2) :
  Calls Tryz.prog 18 #[.agg #[.int .i64 B.now,.int .i64 B.floor,.slice a1 B.on c1,.slice a2 B.hn c2,.slice a3 B.tn c3],.agg #[.slice u1 x.wn d1,.slice u2 x.rn d2]] w fun e w'=>AnS (allC B x) (allB B x) (allV B x) (allN B x) w e w':=by
 have e1:allC B x=1:=by unfold allC;rw [if_neg (by rw [hv];decide)]
 have e2:allB B x=bk0:=by unfold allB;rw [if_neg (by rw [hv];decide)]
 have e3:allV B x=0:=by unfold allV;rw [if_neg (by rw [hv];decide)]
 have e4:allN B x=0:=by unfold allN;rw [if_neg (by rw [hv];decide)]
 rw [e1,e2,e3,e4]
 have HV:=hid hv
 clear hv e1 e2 e3 e4
 have hs:=a3_new w B a1 a2 a3 c1 c2 c3 x u1 u2 d1 d2 hbk hbu
 have hb:=(((Below.refl w.1.size w).alloc Zbt (.cells #[.int .i64 B.now,.int .i64 B.floor,.slice a1 B.on c1,.slice a2 B.hn c2,.slice a3 B.tn c3] 35)).alloc Zd (.cells #[.slice u1 x.wn d1,.slice u2 x.rn d2] 57)).alloc Zc (.cells #[.int .i64 0,.int .i64 0,.int .i64 0,.slice none 0 0,.slice none 0 0,.slice none 0 0,.int .i64 0] 37)
 have HF:=hid hf
 have HU:=hid hu
 clear hf hu
 go_enter Tryz.func18,Tryz.ntmps18
 go_upto_region 1 with fail
 generalize (((w.alloc (.cells #[.int .i64 B.now,.int .i64 B.floor,.slice a1 B.on c1,.slice a2 B.hn c2,.slice a3 B.tn c3] 35)).alloc (.cells #[.slice u1 x.wn d1,.slice u2 x.rn d2] 57)).alloc (.cells #[.int .i64 0,.int .i64 0,.int .i64 0,.slice none 0 0,.slice none 0 0,.slice none 0 0,.int .i64 0] 37))=W1 at hs hb ⊢
 have HS:=hid hs
 have HB:=hid hb
 clear hs hb hbk hbu
 have p0:=HS.out.bk 0 Zd
 have p1:=HS.out.bk 1 Zd
 have p2:=HS.out.bk 2 Zd
 have p3:=HS.out.bk 3 Zd
 have p4:=HS.out.bk 4 Zd
 simp only [vec,List.getD_cons_zero,List.getD_cons_succ] at p0 p1 p2 p3 p4
 go_wp2_with fail
 refine (specValid_any B a1 a2 a3 c1 c2 c3 W1 0 w.1.size HB.out.size HF.out HS.out.bin).mono ?_
 rintro e w1 ⟨rfl,hb1⟩
 have HS0:=hid (HS.out.below hb1)
 have HB0:=hid (HB.out.trans (hb1.mono HB.out.size))
 clear HS HB hb1 p0 p1 p2 p3 p4
 have HS:=HS0
 have HB:=HB0
 clear HS0 HB0
 rw [HV.out]
 have r0:=HS.out.ans.row.cell 0 Za
 have r1:=HS.out.ans.row.cell 1 Za
 have r2:=HS.out.ans.row.cell 2 Za
 have r3:=HS.out.ans.row.cell 3 Za
 have r4:=HS.out.ans.row.cell 4 Za
 have r5:=HS.out.ans.row.cell 5 Za
 have r6:=HS.out.ans.row.cell 6 Za
 have rf:=HS.out.ans.row.free
 have rz:=HS.out.ans.row.lt
 simp only [vec,zdd,List.getD_cons_zero,List.getD_cons_succ] at r0 r1 r2 r3 r4 r5 r6
 have zz:=HS.out.ans.row.lt
 have zb:=HB.out.size
 go_wp2
 refine ret18 (row7 HS.out.ans.row) rfl rfl ⟨?_,none,none,none,0,0,0,rfl,fun i hi=>absurd hi (Nat.not_lt_zero _),fun i hi=>absurd hi (Nat.not_lt_zero _),fun i hi=>absurd hi (Nat.not_lt_zero _)⟩
 exact HB.out.trans ((fr7 (.int .i64 1) (.int .i64 0) (.int .i64 0) (.slice none 0 0) (.slice none 0 0) (.slice none 0 0) (.int .i64 0)).below (fun q hq e=>by have e':q=w.1.size+1+1:=e;omega) zb)
theorem specAll_go (B:Bk) (x:Bu) (a1 a2 a3:Option Addr) (c1 c2 c3:Nat) (u1 u2:Option Addr) (d1 d2:Nat) (w:World) (hf:BkFit B) (hv:allTo (chk B) 7=true) (hu:BuFit x) (hd:DidFit (allB B x)) (hbk:BkIn w 0 w.1.size B a1 a2 a3) (hbu:BuIn w 0 w.1.size x u1 u2) :
  Calls Tryz.prog 18 #[.agg #[.int .i64 B.now,.int .i64 B.floor,.slice a1 B.on c1,.slice a2 B.hn c2,.slice a3 B.tn c3],.agg #[.slice u1 x.wn d1,.slice u2 x.rn d2]] w fun e w'=>AnS (allC B x) (allB B x) (allV B x) (allN B x) w e w':=by
 have HV:=hid hv
 have HD:=hid hd
 clear hv hd
 have hs:=a3_new w B a1 a2 a3 c1 c2 c3 x u1 u2 d1 d2 hbk hbu
 have hb:=(((Below.refl w.1.size w).alloc Zbt (.cells #[.int .i64 B.now,.int .i64 B.floor,.slice a1 B.on c1,.slice a2 B.hn c2,.slice a3 B.tn c3] 35)).alloc Zd (.cells #[.slice u1 x.wn d1,.slice u2 x.rn d2] 57)).alloc Zc (.cells #[.int .i64 0,.int .i64 0,.int .i64 0,.slice none 0 0,.slice none 0 0,.slice none 0 0,.int .i64 0] 37)
 have HF:=hid hf
 have HU:=hid hu
 clear hf hu
 go_enter Tryz.func18,Tryz.ntmps18
 go_upto_region 1 with fail
 generalize (((w.alloc (.cells #[.int .i64 B.now,.int .i64 B.floor,.slice a1 B.on c1,.slice a2 B.hn c2,.slice a3 B.tn c3] 35)).alloc (.cells #[.slice u1 x.wn d1,.slice u2 x.rn d2] 57)).alloc (.cells #[.int .i64 0,.int .i64 0,.int .i64 0,.slice none 0 0,.slice none 0 0,.slice none 0 0,.int .i64 0] 37))=W1 at hs hb ⊢
 have HS:=hid hs
 have HB:=hid hb
 clear hs hb hbk hbu
 have p0:=HS.out.bk 0 Zd
 have p1:=HS.out.bk 1 Zd
 have p2:=HS.out.bk 2 Zd
 have p3:=HS.out.bk 3 Zd
 have p4:=HS.out.bk 4 Zd
 simp only [vec,List.getD_cons_zero,List.getD_cons_succ] at p0 p1 p2 p3 p4
 go_wp2_with fail
 refine (specValid_any B a1 a2 a3 c1 c2 c3 W1 0 w.1.size HB.out.size HF.out HS.out.bin).mono ?_
 rintro e w1 ⟨rfl,hb1⟩
 have HS0:=hid (HS.out.below hb1)
 have HB0:=hid (HB.out.trans (hb1.mono HB.out.size))
 clear HS HB hb1 p0 p1 p2 p3 p4
 have HS:=HS0
 have HB:=HB0
 clear HS0 HB0
 rw [HV.out]
 have p0:=HS.out.bk 0 Zd
 have p1:=HS.out.bk 1 Zd
 have p2:=HS.out.bk 2 Zd
 have p3:=HS.out.bk 3 Zd
 have p4:=HS.out.bk 4 Zd
 have q0:=HS.out.bu 0 Zd
 have q1:=HS.out.bu 1 Zd
 simp only [vec,List.getD_cons_zero,List.getD_cons_succ] at p0 p1 p2 p3 p4 q0 q1
 have zz:=HS.out.ans.row.lt
 have zb:=HB.out.size
 go_wp2_with fail
 refine (l3All_any B x a1 a2 a3 c1 c2 c3 u1 u2 d1 d2 w1 HF.out HV.out HU.out (HS.out.bin.upTo zb) (HS.out.uin.mono Zbt zb)).mono ?_
 intro e w2 hA
 obtain ⟨hb2,b1,b2,b3,e1,e2,e3,rfl,hin⟩:=als_ans HV.out hA
 have HS0:=hid (HS.out.below hb2)
 have HB0:=hid (HB.out.trans (hb2.mono HB.out.size))
 have HIN:=hid hin
 clear HS HB hb2 hA hin p0 p1 p2 p3 p4 q0 q1 zz zb
 have HS:=HS0
 have HB:=HB0
 clear HS0 HB0
 have zz:=HS.out.ans.row.lt
 go_wp2_with fail
 refine (l1Copy_any (allB B x) b1 b2 b3 e1 e2 e3 _ 0 w2.1.size Zd HD.out.o HD.out.h HD.out.t HD.out.fit (HIN.out.below Zbu Zbt)).mono ?_
 rintro e w3 ⟨g1,g2,g3,m1,m2,m3,rfl,hin3,_,hb3⟩
 have R3:=RowF.new (l:=[.int .i64 (allC B x),.int .i64 (allB B x).now,.int .i64 (allB B x).floor,.slice b1 (allB B x).on e1,.slice b2 (allB B x).hn e2,.slice b3 (allB B x).tn e3,.int .i64 (allV B x)]) hb3
 have HS0:=hid ((HS.out.below Zbu).below hb3)
 have HB0:=hid ((HB.out.alloc HB.out.size _).trans (hb3.mono (by have:=HB.out.size;simp;omega)))
 have HI3:=hid hin3
 have z3:w2.1.size<w3.1.size:=by have:=hb3.size;simp at this;omega
 clear HS HB hb3 hin3 HIN
 have HS:=HS0
 have HB:=HB0
 clear HS0 HB0
 have k0:=R3.cell 0 Zd
 have k1:=R3.cell 1 Zd
 have k2:=R3.cell 2 Zd
 have k3:=R3.cell 3 Zd
 have k4:=R3.cell 4 Zd
 have k5:=R3.cell 5 Zd
 have k6:=R3.cell 6 Zd
 have kf:=R3.free
 clear R3
 simp only [vec,List.getD_cons_zero,List.getD_cons_succ] at k0 k1 k2 k3 k4 k5 k6
 have r0:=HS.out.ans.row.cell 0 Za
 have r1:=HS.out.ans.row.cell 1 Za
 have r2:=HS.out.ans.row.cell 2 Za
 have r3:=HS.out.ans.row.cell 3 Za
 have r4:=HS.out.ans.row.cell 4 Za
 have r5:=HS.out.ans.row.cell 5 Za
 have r6:=HS.out.ans.row.cell 6 Za
 have rf:=HS.out.ans.row.free
 have rz:=HS.out.ans.row.lt
 simp only [vec,zdd,List.getD_cons_zero,List.getD_cons_succ] at r0 r1 r2 r3 r4 r5 r6
 have zb:=HB.out.size
 go_wp2
 refine ret18 (row7 (HS.out.ans.row.fr (fr5at (z:=w2.1.size) (.int .i64 (allB B x).now) (.int .i64 (allB B x).floor) (.slice g1 (allB B x).on m1) (.slice g2 (allB B x).hn m2) (.slice g3 (allB B x).tn m3)) (fun e=>by have e':w.1.size+1+1=w2.1.size:=e;omega))) rfl rfl ⟨?_,g1,g2,g3,m1,m2,m3,rfl,?_⟩
 ·exact (HB.out.trans ((fr5at (z:=w2.1.size) (.int .i64 (allB B x).now) (.int .i64 (allB B x).floor) (.slice g1 (allB B x).on m1) (.slice g2 (allB B x).hn m2) (.slice g3 (allB B x).tn m3)).below (fun q hq e=>by have e':q=w2.1.size:=e;omega) zb)).trans ((fr7 (.int .i64 (allC B x)) (.int .i64 (allB B x).now) (.int .i64 (allB B x).floor) (.slice g1 (allB B x).on m1) (.slice g2 (allB B x).hn m2) (.slice g3 (allB B x).tn m3) (.int .i64 (allV B x))).below (fun q hq e=>by have e':q=w.1.size+1+1:=e;omega) (by simp only [World.size_setCell];exact zb))
 ·refine (HI3.out.frLo (((fr5at (z:=w2.1.size) (.int .i64 (allB B x).now) (.int .i64 (allB B x).floor) (.slice g1 (allB B x).on m1) (.slice g2 (allB B x).hn m2) (.slice g3 (allB B x).tn m3)).mono (fun q e=>?_)).trans ((fr7 (z:=w.1.size+1+1) (.int .i64 (allC B x)) (.int .i64 (allB B x).now) (.int .i64 (allB B x).floor) (.slice g1 (allB B x).on m1) (.slice g2 (allB B x).hn m2) (.slice g3 (allB B x).tn m3) (.int .i64 (allV B x))).mono (fun q e=>?_))) Zbt ?_).dn Zbw
  ·have e':q=w2.1.size:=e
   simp
   omega
  ·have e':q=w.1.size+1+1:=e
   simp
   omega
  ·simp only [World.size_setCell]
   exact Nat.le_refl _
theorem specAll_any (B:Bk) (x:Bu) (a1 a2 a3:Option Addr) (c1 c2 c3:Nat) (u1 u2:Option Addr) (d1 d2:Nat) (w:World) (hf:BkFit B) (hu:BuFit x) (hs:szBk B≤1048576) (hbk:BkIn w 0 w.1.size B a1 a2 a3) (hbu:BuIn w 0 w.1.size x u1 u2) :
  Calls Tryz.prog 18 #[.agg #[.int .i64 B.now,.int .i64 B.floor,.slice a1 B.on c1,.slice a2 B.hn c2,.slice a3 B.tn c3],.agg #[.slice u1 x.wn d1,.slice u2 x.rn d2]] w fun e w'=>AnS (allC B x) (allB B x) (allV B x) (allN B x) w e w':=by
 cases hv:allTo (chk B) 7 with
 | false=>exact specAll_bad B x a1 a2 a3 c1 c2 c3 u1 u2 d1 d2 w hf hv hu hbk hbu
 | true=>exact specAll_go B x a1 a2 a3 c1 c2 c3 u1 u2 d1 d2 w hf hv hu (all_fit hf hu hs) hbk hbu
end Go.Proofs.YtllmmkchokkaaaaGreatDoor
