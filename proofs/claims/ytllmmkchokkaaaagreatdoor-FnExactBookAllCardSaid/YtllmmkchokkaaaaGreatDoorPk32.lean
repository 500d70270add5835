import Derived.Test.YtllmmkchokkaaaaGreatDoorPk30
import Derived.Test.YtllmmkchokkaaaaGreatDoorPk31
import Derived.Test.YtllmmkchokkaaaaGreatDoorPk29
set_option maxRecDepth 100000
set_option maxHeartbeats 8000000
namespace Go.Proofs.YtllmmkchokkaaaaGreatDoor
open Go.RowKit Go.Maps
def stC (s:Nat→ByteArray) (j:Nat):Value:=.string (s j)
theorem srcDropS {W:World} {ad:Option Addr} {n cap k:Nat} {s:Nat→ByteArray} {lo hi:Nat} (hs:SrcRow W lo hi ad (n*1) (stC s)) (hkn:k≤n) (hcap:n≤cap):SrcRow W lo hi (if cap=k then ad else Option.map (fun x=>x.add k) ad) ((n-k)*1) (fun j=>stC s (k*1+j)):=by
 refine ⟨fun j hj=>?_,fun _ _=>rfl⟩
 have h1:¬cap=k:=Za
 obtain ⟨b,off,e1,e2,e3,e4⟩:=hs.at_ (k*1+j) Za
 rw [if_neg h1]
 subst e1
 exact ⟨b,off+k,by simp [Addr.add],e2,e3,by rw [Nat.add_assoc];rw [Nat.mul_one] at e4 ⊢;exact e4⟩
theorem StrsIn.srcS {W:World} {lo hi:Nat} {ad:Option Addr} {n:Nat} {s:Nat→ByteArray} (h:StrsIn W lo hi ad n s):SrcRow W lo hi ad (n*1) (stC s):=
 ⟨fun j hj=>h j Za,fun _ _=>rfl⟩
def insPV (O P:Nat) (ad:Option Addr) (n cap k:Nat) (a:ByteArray) (s:Nat→ByteArray) (lo hi:Nat) (W:World) (i:Nat) (v:Value):Prop:=
 match i with
 | 0=>∃ b,v=.slice (some ⟨b,0,none⟩) 0 0
 | 1=>v=.pointer (some ⟨O,6,none⟩)
 | 2=>v=.slice ad n cap
 | 3=>v=.int .i64 (k:Nat)
 | 4=>v=.slice ad k cap
 | 6=>v=.pointer (some ⟨P,5,none⟩)
 | 7=>v=.string a
 | 10=>v=.pointer (some ⟨O,6,none⟩)
 | 11=>v=.slice ad n cap
 | 12=>v=.int .i64 (k:Nat)
 | 13=>∃ ad2 cap2,v=.slice ad2 (n-k) cap2∧SrcRow W lo hi ad2 ((n-k)*1) (fun j=>stC s (k*1+j))
 | 15=>v=.pointer (some ⟨O,6,none⟩)
 | _=>True
theorem insReg30 (p0 p1 p2 p4 p5 p7 p8 p9 p11 p12 p13 p14 p15 p16 p17 p18 p19 p20 p21 p22 p23 p24 p25 p26 p27 p28 p29 p30 p31 p32 p33 p34 p35 p36 p37 p38 p39 p40 p41 p42 p43 p44 p45 p46 p47 p48 p49 p50 p51 p52 p53 p54 p55 p56 p57 p58 p59 p60 p61 p62 p63 p64 p65 p66 p67 p68 p69 p70 p71 p72 p73 p74 p75 p76 p77 p78 p79 p80 p81 p82 p83 p84 p85 p86 p87 p88 p89 p90 p91 p92 p93 p94 p95 p96 p97 p98 p99 p100 p101 p102 p103 p104 p105 p106 p107 p108 p109 p110 p111 p112 p113 p114 p115 p116 p117 p118 p135 p136 p137 p138 p139 p140 p141 p142 p143 p144 p145 p146 p147 p148 p149 p150 p151 p152 p153 p154 p155 p156 p157 p158 p159 p160 p161 p162 p163 p164 p165 p166 p167 p168 p169 p170 p171 p172 p173 p174 p175 p176 p177 p178 p179 p180 p181 p182 p183 p184 p185 p186:Value) (t0:Nat→Value) (O P:Nat) (ad:Option Addr) (n cap k:Nat) (a:ByteArray) (s:Nat→ByteArray) (lo hi:Nat) (W:World) (hkn:k≤n) (hn:n≤1000) (hcap:n≤cap) (hhi:hi≤W.1.size) (hs:SrcRow W lo hi ad (n*1) (stC s)) (hO:O<W.1.size) (hP:P<W.1.size) (h6:W.cell? ⟨O,6,none⟩=some (.slice ad n cap)) (h5:W.cell? ⟨P,5,none⟩=some (.string a)) (hf:W.frozen? ⟨O,6,none⟩=false) (Q:Exit→Act→World→Prop)
  (hQ:∀ (t:Nat→Value) (v3:Value) X,RwV W (k+1+(n-k)) 1 (catF (catF (stC s) (k*1) (fun _=>.string a)) ((k+1)*1) (fun j=>stC s (k*1+j))) v3 X∧Below W.1.size W X→Q .normal ⟨#[p0,p1,p2,.pointer (some ⟨P,0,none⟩),p4,p5,.pointer (some ⟨O,0,none⟩),p7,p8,p9,.int .i64 (k:Nat),p11,p12,p13,p14,p15,p16,p17,p18,p19,p20,p21,p22,p23,p24,p25,p26,p27,p28,p29,p30,p31,p32,p33,p34,p35,p36,p37,p38,p39,p40,p41,p42,p43,p44,p45,p46,p47,p48,p49,p50,p51,p52,p53,p54,p55,p56,p57,p58,p59,p60,p61,p62,p63,p64,p65,p66,p67,p68,p69,p70,p71,p72,p73,p74,p75,p76,p77,p78,p79,p80,p81,p82,p83,p84,p85,p86,p87,p88,p89,p90,p91,p92,p93,p94,p95,p96,p97,p98,p99,p100,p101,p102,p103,p104,p105,p106,p107,p108,p109,p110,p111,p112,p113,p114,p115,p116,p117,p118,t 0,t 1,t 2,t 3,t 4,t 5,t 6,t 7,t 8,t 9,t 10,t 11,t 12,t 13,t 14,t 15,p135,p136,p137,p138,p139,p140,p141,p142,p143,p144,p145,p146,p147,p148,p149,p150,p151,p152,p153,p154,p155,p156,p157,p158,p159,p160,p161,p162,p163,p164,p165,p166,p167,p168,p169,p170,p171,p172,p173,p174,p175,p176,p177,p178,p179,p180,p181,p182,p183,p184,p185,p186],[]⟩ (X.setCell ⟨O,6,none⟩ v3)) :
  Code.wp Tryz.prog (Code.region 30 #[⟨some 119,.buildSlice 108 0 #[],108, "l2_book_write.go:65",#[],none⟩,⟨some 120,.fieldAddr 118 (.tmp 6) 6,0, "l2_book_write.go:65",#[],none⟩,⟨some 121,.load 108 (.tmp 120),108, "l2_book_write.go:65",#[⟨1,.data⟩],none⟩,⟨some 122,.move (.tmp 10),3, "l2_book_write.go:65",#[],none⟩,⟨some 123,.slice 108 (.tmp 121) none (some (.tmp 122)) none,108, "l2_book_write.go:65",#[⟨2,.data⟩,⟨3,.data⟩],none⟩,⟨some 124,.call ⟨.builtin .append,#[.tmp 119,.tmp 123],#[108,108]⟩,108, "l2_book_write.go:65",#[⟨0,.data⟩,⟨4,.data⟩],none⟩,⟨some 125,.fieldAddr 40 (.tmp 3) 5,0, "l2_book_write.go:65",#[],none⟩,⟨some 126,.load 9 (.tmp 125),9, "l2_book_write.go:65",#[⟨6,.data⟩],none⟩,⟨some 127,.buildSlice 108 1 #[(0,.tmp 126)],108, "l2_book_write.go:65",#[⟨7,.data⟩],none⟩,⟨some 128,.call ⟨.builtin .append,#[.tmp 124,.tmp 127],#[108,108]⟩,108, "l2_book_write.go:65",#[⟨5,.data⟩,⟨8,.data⟩,⟨5,.chain⟩],none⟩,⟨some 129,.fieldAddr 118 (.tmp 6) 6,0, "l2_book_write.go:65",#[],none⟩,⟨some 130,.load 108 (.tmp 129),108, "l2_book_write.go:65",#[⟨10,.data⟩],none⟩,⟨some 131,.move (.tmp 10),3, "l2_book_write.go:65",#[],none⟩,⟨some 132,.slice 108 (.tmp 130) (some (.tmp 131)) none none,108, "l2_book_write.go:65",#[⟨11,.data⟩,⟨12,.data⟩],none⟩,⟨some 133,.call ⟨.builtin .append,#[.tmp 128,.tmp 132],#[108,108]⟩,108, "l2_book_write.go:65",#[⟨9,.data⟩,⟨13,.data⟩,⟨9,.chain⟩],none⟩,⟨some 134,.fieldAddr 118 (.tmp 6) 6,0, "l2_book_write.go:65",#[⟨0,.phase⟩,⟨1,.phase⟩,⟨2,.phase⟩,⟨3,.phase⟩,⟨4,.phase⟩,⟨5,.phase⟩,⟨6,.phase⟩,⟨7,.phase⟩,⟨8,.phase⟩,⟨9,.phase⟩,⟨10,.phase⟩,⟨11,.phase⟩,⟨12,.phase⟩,⟨13,.phase⟩,⟨14,.phase⟩],none⟩,⟨none,.store 108 (.tmp 134) (.tmp 133),0, "l2_book_write.go:65",#[⟨15,.data⟩,⟨14,.data⟩,⟨14,.chain⟩,⟨0,.phase⟩,⟨1,.phase⟩,⟨2,.phase⟩,⟨3,.phase⟩,⟨4,.phase⟩,⟨5,.phase⟩,⟨6,.phase⟩,⟨7,.phase⟩,⟨8,.phase⟩,⟨9,.phase⟩,⟨10,.phase⟩,⟨11,.phase⟩,⟨12,.phase⟩,⟨13,.phase⟩,⟨14,.phase⟩],none⟩] true) Q ⟨#[p0,p1,p2,.pointer (some ⟨P,0,none⟩),p4,p5,.pointer (some ⟨O,0,none⟩),p7,p8,p9,.int .i64 (k:Nat),p11,p12,p13,p14,p15,p16,p17,p18,p19,p20,p21,p22,p23,p24,p25,p26,p27,p28,p29,p30,p31,p32,p33,p34,p35,p36,p37,p38,p39,p40,p41,p42,p43,p44,p45,p46,p47,p48,p49,p50,p51,p52,p53,p54,p55,p56,p57,p58,p59,p60,p61,p62,p63,p64,p65,p66,p67,p68,p69,p70,p71,p72,p73,p74,p75,p76,p77,p78,p79,p80,p81,p82,p83,p84,p85,p86,p87,p88,p89,p90,p91,p92,p93,p94,p95,p96,p97,p98,p99,p100,p101,p102,p103,p104,p105,p106,p107,p108,p109,p110,p111,p112,p113,p114,p115,p116,p117,p118,t0 0,t0 1,t0 2,t0 3,t0 4,t0 5,t0 6,t0 7,t0 8,t0 9,t0 10,t0 11,t0 12,t0 13,t0 14,t0 15,p135,p136,p137,p138,p139,p140,p141,p142,p143,p144,p145,p146,p147,p148,p149,p150,p151,p152,p153,p154,p155,p156,p157,p158,p159,p160,p161,p162,p163,p164,p165,p166,p167,p168,p169,p170,p171,p172,p173,p174,p175,p176,p177,p178,p179,p180,p181,p182,p183,p184,p185,p186],[]⟩ W:=by
 refine regionA Zf 16 5 8 9 14 Zb (Wt rfl) (Wt rfl) (Wt rfl) (fun t:Nat→Value=>#[p0,p1,p2,.pointer (some ⟨P,0,none⟩),p4,p5,.pointer (some ⟨O,0,none⟩),p7,p8,p9,.int .i64 (k:Nat),p11,p12,p13,p14,p15,p16,p17,p18,p19,p20,p21,p22,p23,p24,p25,p26,p27,p28,p29,p30,p31,p32,p33,p34,p35,p36,p37,p38,p39,p40,p41,p42,p43,p44,p45,p46,p47,p48,p49,p50,p51,p52,p53,p54,p55,p56,p57,p58,p59,p60,p61,p62,p63,p64,p65,p66,p67,p68,p69,p70,p71,p72,p73,p74,p75,p76,p77,p78,p79,p80,p81,p82,p83,p84,p85,p86,p87,p88,p89,p90,p91,p92,p93,p94,p95,p96,p97,p98,p99,p100,p101,p102,p103,p104,p105,p106,p107,p108,p109,p110,p111,p112,p113,p114,p115,p116,p117,p118,t 0,t 1,t 2,t 3,t 4,t 5,t 6,t 7,t 8,t 9,t 10,t 11,t 12,t 13,t 14,t 15,p135,p136,p137,p138,p139,p140,p141,p142,p143,p144,p145,p146,p147,p148,p149,p150,p151,p152,p153,p154,p155,p156,p157,p158,p159,p160,p161,p162,p163,p164,p165,p166,p167,p168,p169,p170,p171,p172,p173,p174,p175,p176,p177,p178,p179,p180,p181,p182,p183,p184,p185,p186]) t0 (insPV O P ad n cap k a s lo hi W)
  (RwV W k 1 (stC s)) (ElV W 1 (fun _=>.string a)) (RwV W (k+1) 1 (catF (stC s) (k*1) (fun _=>.string a))) (RwV W (k+1+(n-k)) 1 (catF (catF (stC s) (k*1) (fun _=>.string a)) ((k+1)*1) (fun j=>stC s (k*1+j)))) (fun ac Y=>∃ (t:Nat→Value) (v3:Value) (X:World),ac=⟨#[p0,p1,p2,.pointer (some ⟨P,0,none⟩),p4,p5,.pointer (some ⟨O,0,none⟩),p7,p8,p9,.int .i64 (k:Nat),p11,p12,p13,p14,p15,p16,p17,p18,p19,p20,p21,p22,p23,p24,p25,p26,p27,p28,p29,p30,p31,p32,p33,p34,p35,p36,p37,p38,p39,p40,p41,p42,p43,p44,p45,p46,p47,p48,p49,p50,p51,p52,p53,p54,p55,p56,p57,p58,p59,p60,p61,p62,p63,p64,p65,p66,p67,p68,p69,p70,p71,p72,p73,p74,p75,p76,p77,p78,p79,p80,p81,p82,p83,p84,p85,p86,p87,p88,p89,p90,p91,p92,p93,p94,p95,p96,p97,p98,p99,p100,p101,p102,p103,p104,p105,p106,p107,p108,p109,p110,p111,p112,p113,p114,p115,p116,p117,p118,t 0,t 1,t 2,t 3,t 4,t 5,t 6,t 7,t 8,t 9,t 10,t 11,t 12,t 13,t 14,t 15,p135,p136,p137,p138,p139,p140,p141,p142,p143,p144,p145,p146,p147,p148,p149,p150,p151,p152,p153,p154,p155,p156,p157,p158,p159,p160,p161,p162,p163,p164,p165,p166,p167,p168,p169,p170,p171,p172,p173,p174,p175,p176,p177,p178,p179,p180,p181,p182,p183,p184,p185,p186],[]⟩∧Y=X.setCell ⟨O,6,none⟩ v3∧RwV W (k+1+(n-k)) 1 (catF (catF (stC s) (k*1) (fun _=>.string a)) ((k+1)*1) (fun j=>stC s (k*1+j))) v3 X∧Below W.1.size W X) Zf Zf Zf (fun _ _ _ h hb=>h.grow hb) (fun _ _ _ h hb=>h.grow hb) (fun _ _ _ h hb=>h.grow hb) (fun _ _ _ h hb=>h.grow hb) (fun _ _ _ _ h hk=>h.lt hk) (fun _ _ _ h=>h.lt) rfl ?_ ?_ ?_ ?_ ?_ ?_ ?_
 ·intro i hi1 g5 g8 g9 g14 t X K hb hg hK
  rcases (show i=0∨i=1∨i=2∨i=3∨i=4∨i=6∨i=7∨i=10∨i=11∨i=12∨i=13∨i=15 by omega) with rfl|rfl|rfl|rfl|rfl|rfl|rfl|rfl|rfl|rfl|rfl|rfl
  ·have h:=hK (.slice (some ⟨X.1.size,0,none⟩) 0 0) (X.alloc (.cells #[] 9)) ⟨_,rfl⟩ Zbu
   refine wpOp_of rfl rfl ?_
   clear hK hg
   go_simp
   simpa [updT] using h
  ·exact sg
  ·have ea:t 1=.pointer (some ⟨O,6,none⟩):=hg 1 (Wt rfl)
   have l0:=(hb.cell (p:=⟨O,6,none⟩) hO).trans h6
   have zl:=Nat.lt_of_lt_of_le hO hb.size
   exact sg
  ·exact sg
  ·have e2:t 2=.slice ad n cap:=hg 2 (Wt rfl)
   have e3:t 3=.int .i64 (k:Nat):=hg 3 (Wt rfl)
   have h:=hK _ X rfl Zbv
   refine wpOp_of rfl rfl ?_
   clear hK hg
   simp only [e2,e3]
   go_simp
   rw [if_pos Za,Oper.upon_value]
   go_simp
   simpa [updT,e2,e3] using h
  ·exact sg
  ·have ea:t 6=.pointer (some ⟨P,5,none⟩):=hg 6 (Wt rfl)
   have l0:=(hb.cell (p:=⟨P,5,none⟩) hP).trans h5
   have zl:=Nat.lt_of_lt_of_le hP hb.size
   exact sg
  ·exact sg
  ·have ea:t 10=.pointer (some ⟨O,6,none⟩):=hg 10 (Wt rfl)
   have l0:=(hb.cell (p:=⟨O,6,none⟩) hO).trans h6
   have zl:=Nat.lt_of_lt_of_le hO hb.size
   exact sg
  ·exact sg
  ·have e11:t 11=.slice ad n cap:=hg 11 (Wt rfl)
   have e12:t 12=.int .i64 (k:Nat):=hg 12 (Wt rfl)
   have h:=hK (.slice (if cap=k then ad else Option.map (fun x=>x.add k) ad) (n-k) (cap-k)) X ⟨_,_,rfl,srcDropS hs hkn hcap⟩ Zbv
   refine wpOp_of rfl rfl ?_
   clear hK hg
   simp only [e11,e12]
   go_simp
   simpa [updT,e11,e12] using h
  ·exact sg
 ·intro t X K hb hg hK
  obtain ⟨b0,e0⟩:∃ b,t 0=.slice (some ⟨b,0,none⟩) 0 0:=hg 0 (Wt rfl)
  have e4:t 4=.slice ad k cap:=hg 4 (Wt rfl)
  obtain ⟨v,Y,hrun,hrw,hnew,hbY⟩:=rw_begin (P:=Tryz.prog) W X hb 108 108 9 1 16 (.string ByteArray.empty) Tryz.underlying108 Tryz.info9 Za rfl lo hi b0 ad k cap (stC s) ((hs.belowR hb hhi).take Za) Za Za
  exact wpOp_append_runG rfl rfl (.tmp 119) (.tmp 123) 108 108 rfl (by exact e0) (by exact e4) hrun (hK v Y trivial hrw hnew hbY)
 ·intro t X K hb hg hK
  have e7:t 7=.string a:=hg 7 (Wt rfl)
  have h:=hK (.slice (some ⟨X.1.size,0,none⟩) 1 1) (X.alloc (.cells #[.string a] 9)) trivial ⟨X.1.size,rfl,hb.size,Zd,⟨fun j hj=>by
   obtain rfl:j=0:=Za
   exact ⟨X.1.size,0,rfl,Nat.le_refl _,Nat.lt_succ_self _,Zd⟩,fun _ _=>rfl⟩⟩ (fun h m e=>by cases e;exact Nat.le_refl _) Zbu
  refine wpOp_of rfl rfl ?_
  clear hK hg
  simp only [e7]
  go_simp
  simpa [updT,e7] using h
 ·intro t X K hb hg ra rb _ hK
  obtain ⟨b8,e8,_,_,s8⟩:=rb
  obtain ⟨v,Y,hrun,hrw,hbY⟩:=rw_more (P:=Tryz.prog) W X hb 108 108 9 1 16 (.string ByteArray.empty) Tryz.underlying108 Tryz.info9 Za rfl k (stC s) (fun _ _=>rfl) (t 5) ra b8 (b8+1) (some ⟨b8,0,none⟩) 1 1 (fun _=>.string a) s8 (Or.inr Za) Za Za
  exact wpOp_append_runG rfl rfl (.tmp 124) (.tmp 127) 108 108 rfl rfl (by exact e8) hrun (hK v Y trivial hrw hbY)
 ·intro t X K hb hg rc hK
  obtain ⟨ad2,cap2,e13,s13⟩:∃ ad2 cap2,t 13=.slice ad2 (n-k) cap2∧SrcRow W lo hi ad2 ((n-k)*1) (fun j=>stC s (k*1+j)):=hg 13 (Wt rfl)
  obtain ⟨v,Y,hrun,hrw,hbY⟩:=rw_more (P:=Tryz.prog) W X hb 108 108 9 1 16 (.string ByteArray.empty) Tryz.underlying108 Tryz.info9 Za rfl (k+1) (catF (stC s) (k*1) (fun _=>.string a)) (fun j _=>by unfold catF;split<;>rfl) (t 9) rc lo hi ad2 (n-k) cap2 (fun j=>stC s (k*1+j)) (s13.belowR hb hhi) (Or.inl Za) Za Za
  exact wpOp_append_runG rfl rfl (.tmp 128) (.tmp 132) 108 108 rfl rfl (by exact e13) hrun (hK v Y trivial hrw hbY)
 ·intro t X K hb hg rd hK
  have e15:t 15=.pointer (some ⟨O,6,none⟩):=hg 15 Za
  have h:=hK ⟨#[p0,p1,p2,.pointer (some ⟨P,0,none⟩),p4,p5,.pointer (some ⟨O,0,none⟩),p7,p8,p9,.int .i64 (k:Nat),p11,p12,p13,p14,p15,p16,p17,p18,p19,p20,p21,p22,p23,p24,p25,p26,p27,p28,p29,p30,p31,p32,p33,p34,p35,p36,p37,p38,p39,p40,p41,p42,p43,p44,p45,p46,p47,p48,p49,p50,p51,p52,p53,p54,p55,p56,p57,p58,p59,p60,p61,p62,p63,p64,p65,p66,p67,p68,p69,p70,p71,p72,p73,p74,p75,p76,p77,p78,p79,p80,p81,p82,p83,p84,p85,p86,p87,p88,p89,p90,p91,p92,p93,p94,p95,p96,p97,p98,p99,p100,p101,p102,p103,p104,p105,p106,p107,p108,p109,p110,p111,p112,p113,p114,p115,p116,p117,p118,t 0,t 1,t 2,t 3,t 4,t 5,t 6,t 7,t 8,t 9,t 10,t 11,t 12,t 13,t 14,t 15,p135,p136,p137,p138,p139,p140,p141,p142,p143,p144,p145,p146,p147,p148,p149,p150,p151,p152,p153,p154,p155,p156,p157,p158,p159,p160,p161,p162,p163,p164,p165,p166,p167,p168,p169,p170,p171,p172,p173,p174,p175,p176,p177,p178,p179,p180,p181,p182,p183,p184,p185,p186],[]⟩ (X.setCell ⟨O,6,none⟩ (t 14)) ⟨t,t 14,X,rfl,rfl,rd,hb⟩
  have l0:=(hb.cell (p:=⟨O,6,none⟩) hO).trans h6
  have lf:=(hb.frozen (p:=⟨O,6,none⟩) hO).trans hf
  have zl:=Nat.lt_of_lt_of_le hO hb.size
  obtain ⟨ad3,g3,cp3,e14,_,_⟩:=rd
  refine wpOp_of rfl rfl ?_
  clear hK hg
  rw [e14] at h
  simp only [e14,e15] at h ⊢
  go_simp
  simpa [e14,e15] using h
 ·rintro ac X ⟨t,v3,X0,rfl,rfl,h1,h2⟩
  exact hQ t v3 X0 ⟨h1,h2⟩
structure S5 (w:World) (n1:Nat) (B:Bk) (v:Wr) (o:Ob) (e:Bool) (A:Option Addr) (C:Nat) (X:World):Prop where
 z:w.1.size+1+1<n1
 sz:n1+1<X.1.size
 b0:X.cell? ⟨w.1.size,0,none⟩=some (.int .i64 B.now)
 p5:X.cell? ⟨w.1.size+1,5,none⟩=some (.string v.hold)
 r:RowF X (w.1.size+1+1) 9 (vec [.int .i64 0,.bool false,.string ⟨#[]⟩,.string ⟨#[]⟩,.int .i64 0,.int .i64 0,.string ⟨#[]⟩,.bool false,.slice none 0 0])
 ob:RowF X n1 7 (vec [.string o.kind,.string o.name,.int .i64 o.ver,.int .i64 o.born,.string o.text,.bool e,.slice A o.hn C])
 ch:RowF X (n1+1) 9 (vec [.int .i64 (B.now+1),.bool false,.string ⟨#[]⟩,.string ⟨#[]⟩,.int .i64 0,.int .i64 0,.string ⟨#[]⟩,.bool false,.slice none 0 0])
 bel:Below w.1.size w X
 st:StrsIn X 0 X.1.size A o.hn o.hs
theorem S5.grow {w X Y:World} {n1:Nat} {B:Bk} {v:Wr} {o:Ob} {e:Bool} {A:Option Addr} {C:Nat} (h:S5 w n1 B v o e A C X) (hb:Below X.1.size X Y):S5 w n1 B v o e A C Y:=
 have z:=h.z
 have sz:=h.sz
 ⟨h.z,Nat.lt_of_lt_of_le h.sz hb.size,(hb.cell (p:=⟨w.1.size,0,none⟩) Zh).trans h.b0,(hb.cell (p:=⟨w.1.size+1,5,none⟩) Zab).trans h.p5,h.r.below hb Za,h.ob.below hb Za,h.ch.below hb Za,h.bel.trans (hb.mono h.bel.size),fun i hi=>by
  obtain ⟨b,off,e1,e2,e3,e4⟩:=h.st i hi
  exact ⟨b,off,e1,e2,Nat.lt_of_lt_of_le e3 hb.size,(hb.cell (p:=⟨b,off+i,none⟩) e3).trans e4⟩⟩
theorem s5_of {w w1 w2:World} {B:Bk} {v:Wr} {o:Ob} {e:Bool} {A:Option Addr} {C:Nat} (hw:w2=(w1.alloc (.cells #[.string o.kind,.string o.name,.int .i64 o.ver,.int .i64 o.born,.string o.text,.bool e,.slice A o.hn C] 118)).alloc (.cells #[.int .i64 (B.now+1),.bool false,.string ⟨#[]⟩,.string ⟨#[]⟩,.int .i64 0,.int .i64 0,.string ⟨#[]⟩,.bool false,.slice none 0 0] 120)) (z1:w.1.size+1+1<w1.1.size) (hb:Below w.1.size w w1) (b0:w1.cell? ⟨w.1.size,0,none⟩=some (.int .i64 B.now)) (p5:w1.cell? ⟨w.1.size+1,5,none⟩=some (.string v.hold)) (hf:∀ i,w1.frozen? ⟨w.1.size+1+1,i,none⟩=false)
  (r0:w1.cell? ⟨w.1.size+1+1,0,none⟩=some (.int .i64 0)) (r1:w1.cell? ⟨w.1.size+1+1,1,none⟩=some (.bool false)) (r2:w1.cell? ⟨w.1.size+1+1,2,none⟩=some (.string ⟨#[]⟩)) (r3:w1.cell? ⟨w.1.size+1+1,3,none⟩=some (.string ⟨#[]⟩)) (r4:w1.cell? ⟨w.1.size+1+1,4,none⟩=some (.int .i64 0)) (r5:w1.cell? ⟨w.1.size+1+1,5,none⟩=some (.int .i64 0)) (r6:w1.cell? ⟨w.1.size+1+1,6,none⟩=some (.string ⟨#[]⟩)) (r7:w1.cell? ⟨w.1.size+1+1,7,none⟩=some (.bool false)) (r8:w1.cell? ⟨w.1.size+1+1,8,none⟩=some (.slice none 0 0))
  (st:StrsIn w2 0 w2.1.size A o.hn o.hs):S5 w w1.1.size B v o e A C w2:=by
 have B2:Below w1.1.size w1 w2:=by
  rw [hw]
  exact (below_alloc _ _).alloc Zd _
 have hr:RowF w1 (w.1.size+1+1) 9 (vec [.int .i64 0,.bool false,.string ⟨#[]⟩,.string ⟨#[]⟩,.int .i64 0,.int .i64 0,.string ⟨#[]⟩,.bool false,.slice none 0 0]):=⟨z1,hf,fun j hj=>by rcases (show j=0∨j=1∨j=2∨j=3∨j=4∨j=5∨j=6∨j=7∨j=8 by omega) with rfl|rfl|rfl|rfl|rfl|rfl|rfl|rfl|rfl<;>assumption⟩
 refine ⟨z1,by rw [hw];simp,(B2.cell (p:=⟨w.1.size,0,none⟩) Zh).trans b0,(B2.cell (p:=⟨w.1.size+1,5,none⟩) Zab).trans p5,hr.below B2 z1,?_,?_,hb.trans (B2.mono hb.size),st⟩
 ·rw [hw]
  exact RowF.new (w:=w1) (l:=[.string o.kind,.string o.name,.int .i64 o.ver,.int .i64 o.born,.string o.text,.bool e,.slice A o.hn C]) (t:=118) Zbu
 ·rw [hw]
  have h:=RowF.new (w:=w1.alloc (.cells #[.string o.kind,.string o.name,.int .i64 o.ver,.int .i64 o.born,.string o.text,.bool e,.slice A o.hn C] 118)) (l:=[.int .i64 (B.now+1),.bool false,.string ⟨#[]⟩,.string ⟨#[]⟩,.int .i64 0,.int .i64 0,.string ⟨#[]⟩,.bool false,.slice none 0 0]) (t:=120) Zbv
  rw [World.size_alloc] at h
  exact h
theorem ins_cell {s:Nat→ByteArray} {a:ByteArray} {n k j:Nat} (hk:k≤n) (hj:j<n+1):catF (catF (stC s) (k*1) (fun _=>.string a)) ((k+1)*1) (fun j=>stC s (k*1+j)) j=.string (insS s k a j):=by
 rw [ins_cat (stC s) (fun _=>.string a) k n 1 j hk Za]
 unfold insC insS stC
 by_cases h1:j<k
 ·rw [if_pos Za,if_pos h1]
 ·by_cases h2:j=k
  ·rw [if_neg Za,if_pos Za,if_neg h1,if_pos h2]
  ·rw [if_neg Za,if_neg Za,if_neg h1,if_neg h2]
theorem rw_own {W X:World} {k n:Nat} {a:ByteArray} {s:Nat→ByteArray} {v:Value} (hk:k≤n) (h:RwV W (k+1+(n-k)) 1 (catF (catF (stC s) (k*1) (fun _=>.string a)) ((k+1)*1) (fun j=>stC s (k*1+j))) v X):∃ ad cap,v=.slice ad (n+1) cap∧StrsOwn X W.1.size X.1.size ad (n+1) (insS s k a):=by
 obtain ⟨ad,g,cp,e,r,l⟩:=h
 have e1:k+1+(n-k)=n+1:=Za
 rw [e1] at e r
 have hcp:0<cp:=Nat.lt_of_lt_of_le Za r.le
 exact ⟨ad,cp,e,fun i hi=>⟨g,0,r.addr hcp,l hcp,(r.room hcp).lt,by rw [Nat.zero_add,r.cell i Za,ins_cell hk hi],(r.room hcp).free _⟩⟩
theorem apP325 {P:Prop} (h:P:=by
  have hcc:wCode B v=8:=by unfold wCode;rw [if_pos HOC.out,if_pos hm]
  have HFIN:=hid (show ∀ w',Below w.1.size w w'→ChgP B v w (.returned (.tuple #[.agg #[.int .i64 0,.bool false,.string ⟨#[]⟩,.string ⟨#[]⟩,.int .i64 0,.int .i64 0,.string ⟨#[]⟩,.bool false,.slice none 0 0],.int .i64 8])) w' from fun w' hb=>⟨hb,Or.inl ⟨by rw [hcc];decide,by rw [hcc]⟩⟩)
  clear hcc
  go_wp2
  refine bodyPost_ret (v:=.tuple #[.agg #[.int .i64 0,.bool false,.string ⟨#[]⟩,.string ⟨#[]⟩,.int .i64 0,.int .i64 0,.string ⟨#[]⟩,.bool false,.slice none 0 0],.int .i64 8]) Zbg rfl (HFIN.out _ (by repeat (first|with_reducible exact HB5.out|with_reducible refine Below.setCell ?_ Zj _|with_reducible refine Below.alloc ?_ Zj _|with_reducible refine Below.drew ?_)))):P:=h
theorem apP320 {P:Prop} (h:P:=by
  go_wp2
  go_quiet (fail)
  have HS2:=hid (HS.out.grow (below_drewN' wr nq))
  generalize wr.drewN nq=wr2 at HS2 ⊢
  clear b0 p5 r0 r1 r2 r3 r4 r5 r6 r7 r8 o0 o1 o2 o3 o4 o5 o6 q0 q1 q2 q3 q4 q5 q6 q7 q8 rf of qf z sz
  have z:=HS2.out.z
  have sz:=HS2.out.sz
  have b0:=HS2.out.b0
  have p5:=HS2.out.p5
  have r0:=HS2.out.r.cell 0 Zb
  have r1:=HS2.out.r.cell 1 Zb
  have r2:=HS2.out.r.cell 2 Zb
  have r3:=HS2.out.r.cell 3 Zb
  have r4:=HS2.out.r.cell 4 Zb
  have r5:=HS2.out.r.cell 5 Zb
  have r6:=HS2.out.r.cell 6 Zb
  have r7:=HS2.out.r.cell 7 Zb
  have r8:=HS2.out.r.cell 8 Zb
  have o0:=HS2.out.ob.cell 0 Zb
  have o1:=HS2.out.ob.cell 1 Zb
  have o2:=HS2.out.ob.cell 2 Zb
  have o3:=HS2.out.ob.cell 3 Zb
  have o4:=HS2.out.ob.cell 4 Zb
  have o5:=HS2.out.ob.cell 5 Zb
  have o6:=HS2.out.ob.cell 6 Zb
  have q0:=HS2.out.ch.cell 0 Zb
  have q1:=HS2.out.ch.cell 1 Zb
  have q2:=HS2.out.ch.cell 2 Zb
  have q3:=HS2.out.ch.cell 3 Zb
  have q4:=HS2.out.ch.cell 4 Zb
  have q5:=HS2.out.ch.cell 5 Zb
  have q6:=HS2.out.ch.cell 6 Zb
  have q7:=HS2.out.ch.cell 7 Zb
  have q8:=HS2.out.ch.cell 8 Zb
  have rf:=HS2.out.r.free
  have of:=HS2.out.ob.free
  have qf:=HS2.out.ch.free
  simp only [vec,List.getD_cons_zero,List.getD_cons_succ] at r0 r1 r2 r3 r4 r5 r6 r7 r8 o0 o1 o2 o3 o4 o5 o6 q0 q1 q2 q3 q4 q5 q6 q7 q8
  go_wp2
  refine insReg30 _ _ _ _ _ _ _ _ _ _ _ _ _ _ _ _ _ _ _ _ _ _ _ _ _ _ _ _ _ _ _ _ _ _ _ _ _ _ _ _ _ _ _ _ _ _ _ _ _ _ _ _ _ _ _ _ _ _ _ _ _ _ _ _ _ _ _ _ _ _ _ _ _ _ _ _ _ _ _ _ _ _ _ _ _ _ _ _ _ _ _ _ _ _ _ _ _ _ _ _ _ _ _ _ _ _ _ _ _ _ _ _ _ _ _ _ _ _ _ _ _ _ _ _ _ _ _ _ _ _ _ _ _ _ _ _ _ _ _ _ _ _ _ _ _ _ _ _ _ _ _ _ _ _ _ _ _ _ _ _ _ _ _ _ _ _ _ _ (fun _=>undef) n1 (w.1.size+1) A o.hn C _ v.hold o.hs 0 wr2.1.size wr2 hk Za hcap Zbt HS2.out.st.srcS Za Za o6 p5 (of 6) _ ?_
  rintro t v3 X ⟨hrw,hbX⟩
  obtain ⟨A3,C3,rfl,hown⟩:=rw_own hk hrw
  have S2:=hid (HS2.out.grow hbX)
  have HW:=hid hown
  have HB5:=hid S2.out.bel
  have zX:=hbX.size
  have szW:=sz
  have zW:=z
  clear hrw hown hbX b0 p5 r0 r1 r2 r3 r4 r5 r6 r7 r8 o0 o1 o2 o3 o4 o5 o6 q0 q1 q2 q3 q4 q5 q6 q7 q8 rf of qf z sz
  have z:=S2.out.z
  have sz:=S2.out.sz
  have b0:=S2.out.b0
  have p5:=S2.out.p5
  have r0:=S2.out.r.cell 0 Zb
  have r1:=S2.out.r.cell 1 Zb
  have r2:=S2.out.r.cell 2 Zb
  have r3:=S2.out.r.cell 3 Zb
  have r4:=S2.out.r.cell 4 Zb
  have r5:=S2.out.r.cell 5 Zb
  have r6:=S2.out.r.cell 6 Zb
  have r7:=S2.out.r.cell 7 Zb
  have r8:=S2.out.r.cell 8 Zb
  have o0:=S2.out.ob.cell 0 Zb
  have o1:=S2.out.ob.cell 1 Zb
  have o2:=S2.out.ob.cell 2 Zb
  have o3:=S2.out.ob.cell 3 Zb
  have o4:=S2.out.ob.cell 4 Zb
  have o5:=S2.out.ob.cell 5 Zb
  have o6:=S2.out.ob.cell 6 Zb
  have q0:=S2.out.ch.cell 0 Zb
  have q1:=S2.out.ch.cell 1 Zb
  have q2:=S2.out.ch.cell 2 Zb
  have q3:=S2.out.ch.cell 3 Zb
  have q4:=S2.out.ch.cell 4 Zb
  have q5:=S2.out.ch.cell 5 Zb
  have q6:=S2.out.ch.cell 6 Zb
  have q7:=S2.out.ch.cell 7 Zb
  have q8:=S2.out.ch.cell 8 Zb
  have rf:=S2.out.r.free
  have of:=S2.out.ob.free
  have qf:=S2.out.ch.free
  simp only [vec,List.getD_cons_zero,List.getD_cons_succ] at r0 r1 r2 r3 r4 r5 r6 r7 r8 o0 o1 o2 o3 o4 o5 o6 q0 q1 q2 q3 q4 q5 q6 q7 q8
  by_cases hm:1000000≤B.now
  ·exact apP325
  ·have hcc:wCode B v=0:=by unfold wCode;rw [if_pos HOC.out,if_neg hm]
   have HCC:=hid hcc
   have hm2:B.now<1000000:=Za
   clear hcc hm
   go_wp2
   refine bodyPost_ret (v:=.tuple #[.agg #[.int .i64 (B.now+1),.bool false,.string o.kind,.string o.name,.int .i64 (B.now+1),.int .i64 o.born,.string o.text,.bool false,.slice A3 (o.hn+1) C3],.int .i64 0]) Zbg rfl ⟨by repeat (first|with_reducible exact HB5.out|with_reducible refine Below.setCell ?_ Zj _|with_reducible refine Below.alloc ?_ Zj _|with_reducible refine Below.drew ?_),Or.inr ⟨HCC.out,A3,C3,?_,?_⟩⟩
   ·rw [HV.out]
   ·rw [HN.out,HK.out]
    exact strs_keep HW.out Zau):P:=h
theorem apP324 {P:Prop} (h:P:=by
  go_wp2_with fail
  refine (l2Has_any o.hn o.hs A C v.hold _ 0 _ Za (strs_keep HST.out Zg)).mono ?_
  rintro e w2 ⟨rfl,hw2⟩
  rw [HH.out]
  have HS0:=hid (s5_of (e:=false) (B:=B) (v:=v) (o:=o) hw2 z1 HB.out b0 p5 Y2 r0 r1 r2 r3 r4 r5 r6 r7 r8 (by rw [hw2];exact strs_keep HST.out Zg))
  clear b0 b1 b2 b3 b4 p0 p1 p2 p3 p4 p5 r0 r1 r2 r3 r4 r5 r6 r7 r8 Y1 Y2 z1 zA zB zA2 zA3 zB2 zB3 zC2 zC3
  generalize hn1:w1.1.size=n1 at *
  clear hn1 hw2 HB HST
  have z:=HS0.out.z
  have sz:=HS0.out.sz
  have b0:=HS0.out.b0
  have p5:=HS0.out.p5
  have r0:=HS0.out.r.cell 0 Zb
  have r1:=HS0.out.r.cell 1 Zb
  have r2:=HS0.out.r.cell 2 Zb
  have r3:=HS0.out.r.cell 3 Zb
  have r4:=HS0.out.r.cell 4 Zb
  have r5:=HS0.out.r.cell 5 Zb
  have r6:=HS0.out.r.cell 6 Zb
  have r7:=HS0.out.r.cell 7 Zb
  have r8:=HS0.out.r.cell 8 Zb
  have o0:=HS0.out.ob.cell 0 Zb
  have o1:=HS0.out.ob.cell 1 Zb
  have o2:=HS0.out.ob.cell 2 Zb
  have o3:=HS0.out.ob.cell 3 Zb
  have o4:=HS0.out.ob.cell 4 Zb
  have o5:=HS0.out.ob.cell 5 Zb
  have o6:=HS0.out.ob.cell 6 Zb
  have q0:=HS0.out.ch.cell 0 Zb
  have q1:=HS0.out.ch.cell 1 Zb
  have q2:=HS0.out.ch.cell 2 Zb
  have q3:=HS0.out.ch.cell 3 Zb
  have q4:=HS0.out.ch.cell 4 Zb
  have q5:=HS0.out.ch.cell 5 Zb
  have q6:=HS0.out.ch.cell 6 Zb
  have q7:=HS0.out.ch.cell 7 Zb
  have q8:=HS0.out.ch.cell 8 Zb
  have rf:=HS0.out.r.free
  have of:=HS0.out.ob.free
  have qf:=HS0.out.ch.free
  simp only [vec,List.getD_cons_zero,List.getD_cons_succ] at r0 r1 r2 r3 r4 r5 r6 r7 r8 o0 o1 o2 o3 o4 o5 o6 q0 q1 q2 q3 q4 q5 q6 q7 q8
  go_wp2
  go_loopw [10] (fun i wr=>∃ k:Nat,k≤o.hn∧i=.int .i64 k∧(∀ j,j<k→ltB (o.hs j) v.hold=true)∧Hid (S5 w n1 B v o false A C wr)) (fun i _=>o.hn-(intOf i).toNat)
  case atStart=>exact ⟨0,Nat.zero_le _,rfl,fun j hj=>absurd hj (Nat.not_lt_zero _),HS0⟩
  case round=>
   obtain ⟨k,hk,rfl,hall,HS⟩:=hrel
   have HA:=hid hall
   clear hall HS0 b0 p5 r0 r1 r2 r3 r4 r5 r6 r7 r8 o0 o1 o2 o3 o4 o5 o6 q0 q1 q2 q3 q4 q5 q6 q7 q8 rf of qf z sz
   have z:=HS.out.z
   have sz:=HS.out.sz
   have b0:=HS.out.b0
   have p5:=HS.out.p5
   have r0:=HS.out.r.cell 0 Zb
   have r1:=HS.out.r.cell 1 Zb
   have r2:=HS.out.r.cell 2 Zb
   have r3:=HS.out.r.cell 3 Zb
   have r4:=HS.out.r.cell 4 Zb
   have r5:=HS.out.r.cell 5 Zb
   have r6:=HS.out.r.cell 6 Zb
   have r7:=HS.out.r.cell 7 Zb
   have r8:=HS.out.r.cell 8 Zb
   have o0:=HS.out.ob.cell 0 Zb
   have o1:=HS.out.ob.cell 1 Zb
   have o2:=HS.out.ob.cell 2 Zb
   have o3:=HS.out.ob.cell 3 Zb
   have o4:=HS.out.ob.cell 4 Zb
   have o5:=HS.out.ob.cell 5 Zb
   have o6:=HS.out.ob.cell 6 Zb
   have q0:=HS.out.ch.cell 0 Zb
   have q1:=HS.out.ch.cell 1 Zb
   have q2:=HS.out.ch.cell 2 Zb
   have q3:=HS.out.ch.cell 3 Zb
   have q4:=HS.out.ch.cell 4 Zb
   have q5:=HS.out.ch.cell 5 Zb
   have q6:=HS.out.ch.cell 6 Zb
   have q7:=HS.out.ch.cell 7 Zb
   have q8:=HS.out.ch.cell 8 Zb
   have rf:=HS.out.r.free
   have of:=HS.out.ob.free
   have qf:=HS.out.ch.free
   simp only [vec,List.getD_cons_zero,List.getD_cons_succ] at r0 r1 r2 r3 r4 r5 r6 r7 r8 o0 o1 o2 o3 o4 o5 o6 q0 q1 q2 q3 q4 q5 q6 q7 q8
   by_cases hkn:k<o.hn
   ·obtain ⟨b,off,eA,hlo,hbh,hcx⟩:=HS.out.st k hkn
    cases hlt:ltB (o.hs k) v.hold with
    | true=>
     have HN1:=hid (show ∀ j,j<k+1→ltB (o.hs j) v.hold=true from fun j hj=>by
      rcases Nat.lt_or_ge j k with h3|h3
      ·exact HA.out j h3
      ·obtain rfl:j=k:=Za
       exact hlt)
     have hlt':Op.bytesLess (o.hs k).toList v.hold.toList=true:=hlt
     rw [eA] at o6
     clear hlt
     go_wp2
     go_quiet (fail)
     go_wp2
     go_roundw
     case rel=>exact ⟨k+1,Za,by go_num,HN1.out,hid (HS.out.grow (below_drewN' _ _))⟩
     case measure=>simp [intOf];omega
    | false=>
     have HK:=hid (rkS_eq hk HA.out (fun _=>hlt))
     have hlt':Op.bytesLess (o.hs k).toList v.hold.toList=false:=hlt
     rw [eA] at o6
     clear hlt
     exact apP320
   ·obtain rfl:k=o.hn:=Za
    have HK:=hid (rkS_eq hk HA.out (fun h=>absurd h hkn))
    exact apP320):P:=h
theorem chg_4 (B:Bk) (v:Wr) (a1 a2 a3:Option Addr) (c1 c2 c3:Nat) (o:Ob) (w:World) (hok:WOk B v) (hc:ObjsIn w 0 w.1.size a1 B.on B.os) (ho:fndOb B.os v.kind v.name B.on=o) (hol:(o.hn:Int)≤5) (ht:fndIs B.os v.kind v.name B.on=true) (hop:v.op=4) (hsv:v.seen=0∨(¬v.seen=0∧v.seen=o.ver)) (he:o.ending=false) (hh:hasB o.hn o.hs v.hold=false) (h5:(o.hn:Int)<5) (hoc:oCode B v=0) (hv:∀ (A:Option Addr) (C:Nat),(.agg #[.int .i64 (B.now+1),.bool false,.string o.kind,.string o.name,.int .i64 (B.now+1),.int .i64 o.born,.string o.text,.bool false,.slice A (o.hn+1) C]:Value)=.agg #[.int .i64 (wCh B v).ver,.bool (wCh B v).gone,.string (wCh B v).ob.kind,.string (wCh B v).ob.name,.int .i64 (wCh B v).ob.ver,.int .i64 (wCh B v).ob.born,.string (wCh B v).ob.text,.bool (wCh B v).ob.ending,.slice A (wCh B v).ob.hn C]) (hhs:∀ (W:World) (A:Option Addr),StrsIn W 0 W.1.size A (wCh B v).ob.hn (wCh B v).ob.hs=StrsIn W 0 W.1.size A (o.hn+1) (insS o.hs (rkS o.hs v.hold o.hn) v.hold)) :
  Calls Tryz.prog 75 #[.agg #[.int .i64 B.now,.int .i64 B.floor,.slice a1 B.on c1,.slice a2 B.hn c2,.slice a3 B.tn c3],.agg #[.int .i64 v.op,.string v.kind,.string v.name,.int .i64 v.seen,.string v.text,.string v.hold]] w fun e w'=>ChgP B v w e w':=by
 have B3:∀ o1 o2 o3,Below w.1.size w (((w.alloc o1).alloc o2).alloc o3):=fun o1 o2 o3=>(((Below.refl _ _).alloc Zbt _).alloc Zd _).alloc Zc _
 have HB3:=hid B3
 have HOK:=hid hok
 have HC:=hid hc
 have HO:=hid ho
 have hn0:=hok.now0
 have hn1:=hok.now1
 have hon:(B.on:Int)≤100:=by have:=hok.on;omega
 have HON:=hid hon
 clear hok hc ho B3
 have HT:=hid ht
 have HOP:=hid hop
 clear ht hop
 have HE:=hid he
 clear he
 have HSV:=hid hsv
 clear hsv
 have HH:=hid hh
 clear hh
 have HOC:=hid hoc
 have HV:=hid hv
 have HN:=hid hhs
 clear hoc hv hhs
 go_enter Tryz.func75,Tryz.ntmps75
 go_wp2_with fail
 refine (specFind_any B.now B.floor B.on B.os a1 a2 a3 c1 B.hn c2 B.tn c3 v.kind v.name _ 0 w.1.size Zc Zax HOK.out.fit.os (HC.out.below (HB3.out _ _ _) Zbt)).mono ?_
 rintro e w1 ⟨A,C,rfl,hcap,hst,hb1⟩
 rw [HO.out] at hcap hst
 rw [HO.out,HT.out]
 have z1:w.1.size+1+1<w1.1.size:=by have:=hb1.size;simp at this;omega
 have zA:w.1.size<w1.1.size:=Za
 have zB:w.1.size+1<w1.1.size:=Za
 have zA2:w.1.size<w1.1.size+1:=Za
 have zA3:w.1.size<w1.1.size+1+1:=Za
 have zB2:w.1.size+1<w1.1.size+1:=Za
 have zB3:w.1.size+1<w1.1.size+1+1:=Za
 have zC2:w.1.size+1+1<w1.1.size+1:=Za
 have zC3:w.1.size+1+1<w1.1.size+1+1:=Za
 obtain ⟨X0,X1,X2,Y1,Y2⟩:=three_cell hb1
 have b0:=X0 0
 have b1:=X0 1
 have b2:=X0 2
 have b3:=X0 3
 have b4:=X0 4
 have p0:=X1 0
 have p1:=X1 1
 have p2:=X1 2
 have p3:=X1 3
 have p4:=X1 4
 have p5:=X1 5
 have r0:=X2 0
 have r1:=X2 1
 have r2:=X2 2
 have r3:=X2 3
 have r4:=X2 4
 have r5:=X2 5
 have r6:=X2 6
 have r7:=X2 7
 have r8:=X2 8
 simp only [List.getElem?_toArray,List.getElem?_cons_succ,List.getElem?_cons_zero] at b0 b1 b2 b3 b4 p0 p1 p2 p3 p4 p5 r0 r1 r2 r3 r4 r5 r6 r7 r8
 have HB:=hid ((HB3.out _ _ _).trans (hb1.mono Zc))
 have HST:=hid hst
 clear X0 X1 X2 hb1 hst
 have hw:IntKind.i64.wrap (B.now+1)=B.now+1:=IntWalk.i64_in _ ⟨Za,Za⟩
 simp only [World.size_alloc] at HST
 rw [HOP.out] at p0
 rw [HE.out]
 rcases HSV.out with hs|⟨hs0,hs⟩
 ·rw [hs] at p3
  clear hs
  exact apP324
 ·rw [hs] at p3
  have hsb:(o.ver != 0)=true:=by rw [←hs];simpa using hs0
  clear hs hs0
  exact apP324
def remN (p k:Nat):Nat:=if k≤p then k else k-1
theorem remN_step {p k:Nat} (s:Nat→ByteArray) (h:¬k=p):remN p (k+1)=remN p k+1∧remS s p (remN p k)=s k:=by
 unfold remN remS
 by_cases h1:k<p
 ·rw [if_pos Za,if_pos Za,if_pos h1]
  exact ⟨rfl,rfl⟩
 ·rw [if_neg Za,if_neg Za,if_neg Za]
  exact ⟨Za,congrArg s Za⟩
theorem remN_skip (p:Nat):remN p (p+1)=remN p p:=by
 unfold remN
 rw [if_neg Za,if_pos Zbt]
 omega
theorem remN_end {p n:Nat} (h:p<n):remN p n=n-1:=by
 unfold remN
 rw [if_neg Za]
theorem remN_le (p k:Nat):remN p k≤k:=by
 unfold remN
 split<;>omega
theorem strCells_succ (n:Nat) (s:Nat→ByteArray):strCells (n+1) s=strCells n s ++ [.string (s n)]:=by
 simp [strCells,List.range_succ]
theorem asc_one {n:Nat} {s:Nat→ByteArray} {a:ByteArray} (h:HsAsc n s) (hh:hasB n s a=true):rkS s a n<n∧∀ k,k<n→(s k=a↔k=rkS s a n):=by
 have h1:=has_rk (a:=a) h
 rw [hh] at h1
 have h2:rkS s a n<n∧s (rkS s a n)=a:=by simpa using h1.symm
 refine ⟨h2.1,fun k hk=>⟨fun e=>?_,fun e=>by rw [e];exact h2.2⟩⟩
 rcases Nat.lt_trichotomy k (rkS s a n) with h3|h3|h3
 ·have:=h k (rkS s a n) h3 h2.1
  rw [e,h2.2] at this
  exact absurd this (by rw [ltB_irr rfl];decide)
 ·exact h3
 ·have:=h (rkS s a n) k h3 hk
  rw [e,h2.2] at this
  exact absurd this (by rw [ltB_irr rfl];decide)
theorem own_strs5 {w:World} {base n:Nat} {v:Value} {s:Nat→ByteArray} (h:w.ownsRow base 9 1 v n (strCells n s)):∃ ad cap,v=.slice ad n cap∧StrsOwn w base w.1.size ad n s:=by
 rcases Nat.eq_zero_or_pos n with h0|h0
 ·subst h0
  obtain ⟨ad,cap,e⟩:=own_slice h
  exact ⟨ad,cap,e,fun i hi=>absurd hi (Nat.not_lt_zero _)⟩
 ·obtain ⟨g,cap,e,_,ho⟩:=strsOwn_of_row h h0
  exact ⟨_,cap,e,ho⟩
theorem apP321 {P:Prop} (h:P:=by
  obtain ⟨b,off,eA,hlo,hbh,hcx⟩:=HS.out.st k hkn
  rw [eA] at o6
  have HEA:=hid eA
  clear eA
  by_cases hkp:k=rkS o.hs v.hold o.hn
  ·have HSK:=hid (HASC.out.2 k hkn)
   have hsk:o.hs k=v.hold:=HSK.out.2 hkp
   have HKP:=hid hkp
   clear hkp
   rw [hsk] at hcx
   clear hsk
   go_wp2
   go_quiet (fail)
   go_wp2
   go_roundw
   case rel=>exact ⟨k+1,Za,by go_num,hid ⟨HR.out.1.trans ((below_drewN' _ _).mono szR),by rw [show remN (rkS o.hs v.hold o.hn) (k+1)=remN (rkS o.hs v.hold o.hn) k from by rw [HKP.out];exact remN_skip _];exact own_grow (HR.out.2) (below_drewN' _ _)⟩⟩
   case measure=>simp [intOf];omega
  ·have hsk:¬o.hs k=v.hold:=fun e=>hkp ((HASC.out.2 k hkn).1 e)
   have hne:=beq_ne hsk
   have HKP:=hid hkp
   have hle:=remN_le (rkS o.hs v.hold o.hn) k
   obtain ⟨m1,hm1⟩:∃ m1,remN (rkS o.hs v.hold o.hn) k=m1:=⟨_,rfl⟩
   have HM1:=hid hm1
   rw [hm1] at hle
   clear hkp hsk hm1
   go_wp2
   go_quiet (fail)
   have HS2:=hid (HS.out.grow (below_drewN' wr nq))
   have HR2:=hid (show Below w2.1.size w2 (wr.drewN nq)∧(wr.drewN nq).ownsRow w2.1.size 9 1 u11 m1 (strCells m1 (remS o.hs (rkS o.hs v.hold o.hn))) from ⟨HR.out.1.trans ((below_drewN' _ _).mono szR),by rw [←HM1.out];exact own_grow (HR.out.2) (below_drewN' _ _)⟩)
   have hcx2:(wr.drewN nq).cell? ⟨b,off+k,none⟩=some (.string (o.hs k)):=hcx
   have szR2:w2.1.size≤(wr.drewN nq).1.size:=szR
   generalize wr.drewN nq=wr2 at HS2 HR2 hcx2 szR2 ⊢
   clear b0 p5 r0 r1 r2 r3 r4 r5 r6 r7 r8 o0 o1 o2 o3 o4 o5 o6 q0 q1 q2 q3 q4 q5 q6 q7 q8 rf of qf z sz hcx szR
   have z:=HS2.out.z
   have sz:=HS2.out.sz
   have b0:=HS2.out.b0
   have p5:=HS2.out.p5
   have r0:=HS2.out.r.cell 0 Zb
   have r1:=HS2.out.r.cell 1 Zb
   have r2:=HS2.out.r.cell 2 Zb
   have r3:=HS2.out.r.cell 3 Zb
   have r4:=HS2.out.r.cell 4 Zb
   have r5:=HS2.out.r.cell 5 Zb
   have r6:=HS2.out.r.cell 6 Zb
   have r7:=HS2.out.r.cell 7 Zb
   have r8:=HS2.out.r.cell 8 Zb
   have o0:=HS2.out.ob.cell 0 Zb
   have o1:=HS2.out.ob.cell 1 Zb
   have o2:=HS2.out.ob.cell 2 Zb
   have o3:=HS2.out.ob.cell 3 Zb
   have o4:=HS2.out.ob.cell 4 Zb
   have o5:=HS2.out.ob.cell 5 Zb
   have o6:=HS2.out.ob.cell 6 Zb
   have q0:=HS2.out.ch.cell 0 Zb
   have q1:=HS2.out.ch.cell 1 Zb
   have q2:=HS2.out.ch.cell 2 Zb
   have q3:=HS2.out.ch.cell 3 Zb
   have q4:=HS2.out.ch.cell 4 Zb
   have q5:=HS2.out.ch.cell 5 Zb
   have q6:=HS2.out.ch.cell 6 Zb
   have q7:=HS2.out.ch.cell 7 Zb
   have q8:=HS2.out.ch.cell 8 Zb
   have rf:=HS2.out.r.free
   have of:=HS2.out.ob.free
   have qf:=HS2.out.ch.free
   simp only [vec,List.getD_cons_zero,List.getD_cons_succ] at r0 r1 r2 r3 r4 r5 r6 r7 r8 o0 o1 o2 o3 o4 o5 o6 q0 q1 q2 q3 q4 q5 q6 q7 q8
   rw [HEA.out] at o6
   have hown2:=own_grow HR2.out.2 (below_alloc wr2 (.cells #[.string (o.hs k)] 9))
   go_wp2_with (at_builtin;go_must (refine wpList_append_own_at _ rfl _ _ 108 rfl w2.1.size 9 i0 _ 1 16 Tryz.underlying108 hi0 hz0 hz1 hz2 rfl Zb _ m1 (strCells m1 (remS o.hs (rkS o.hs v.hold o.hn))) rfl hown2 ⟨wr2.1.size,0,none⟩ 1 1 [.string (o.hs k)] rfl rfl (alloc_news wr2 _ 9) Zbi Zs Za Zc ?_;intro v2 u2 hown2' hgrow2 hnil2 hwh2;clear hnil2 hwh2))
   have HR3:=hid (show Below w2.1.size w2 u2∧u2.ownsRow w2.1.size 9 1 v2 (remN (rkS o.hs v.hold o.hn) (k+1)) (strCells (remN (rkS o.hs v.hold o.hn) (k+1)) (remS o.hs (rkS o.hs v.hold o.hn))) from ⟨(HR2.out.1.alloc szR2 _).trans ((FrP.of_grown hgrow2).below (fun q hq e=>by have:=(hown2.lt q e).1;omega) Zc),by
    obtain ⟨g1,g2⟩:=remN_step o.hs HKP.out
    rw [HM1.out] at g1 g2
    rw [g1,strCells_succ,g2]
    exact hown2'⟩)
   clear hown2 hown2' hgrow2
   go_roundw
   case rel=>exact ⟨k+1,Za,by go_num,HR3⟩
   case measure=>simp [intOf];omega):P:=h
theorem apP323 {P:Prop} (h:P:=by
  go_wp2_with fail
  refine (l2Has_any o.hn o.hs A C v.hold _ 0 _ Za (strs_keep HST.out Zg)).mono ?_
  rintro e w2 ⟨rfl,hw2⟩
  rw [HH.out]
  have HS0:=hid (s5_of (e:=false) (B:=B) (v:=v) (o:=o) hw2 z1 HB.out b0 p5 Y2 r0 r1 r2 r3 r4 r5 r6 r7 r8 (by rw [hw2];exact strs_keep HST.out Zg))
  clear b0 b1 b2 b3 b4 p0 p1 p2 p3 p4 p5 r0 r1 r2 r3 r4 r5 r6 r7 r8 Y1 Y2 z1 zA zB zA2 zA3 zB2 zB3 zC2 zC3
  generalize hn1:w1.1.size=n1 at *
  clear hn1 hw2 HB HST
  have z:=HS0.out.z
  have sz:=HS0.out.sz
  have b0:=HS0.out.b0
  have p5:=HS0.out.p5
  have r0:=HS0.out.r.cell 0 Zb
  have r1:=HS0.out.r.cell 1 Zb
  have r2:=HS0.out.r.cell 2 Zb
  have r3:=HS0.out.r.cell 3 Zb
  have r4:=HS0.out.r.cell 4 Zb
  have r5:=HS0.out.r.cell 5 Zb
  have r6:=HS0.out.r.cell 6 Zb
  have r7:=HS0.out.r.cell 7 Zb
  have r8:=HS0.out.r.cell 8 Zb
  have o0:=HS0.out.ob.cell 0 Zb
  have o1:=HS0.out.ob.cell 1 Zb
  have o2:=HS0.out.ob.cell 2 Zb
  have o3:=HS0.out.ob.cell 3 Zb
  have o4:=HS0.out.ob.cell 4 Zb
  have o5:=HS0.out.ob.cell 5 Zb
  have o6:=HS0.out.ob.cell 6 Zb
  have q0:=HS0.out.ch.cell 0 Zb
  have q1:=HS0.out.ch.cell 1 Zb
  have q2:=HS0.out.ch.cell 2 Zb
  have q3:=HS0.out.ch.cell 3 Zb
  have q4:=HS0.out.ch.cell 4 Zb
  have q5:=HS0.out.ch.cell 5 Zb
  have q6:=HS0.out.ch.cell 6 Zb
  have q7:=HS0.out.ch.cell 7 Zb
  have q8:=HS0.out.ch.cell 8 Zb
  have rf:=HS0.out.r.free
  have of:=HS0.out.ob.free
  have qf:=HS0.out.ch.free
  simp only [vec,List.getD_cons_zero,List.getD_cons_succ] at r0 r1 r2 r3 r4 r5 r6 r7 r8 o0 o1 o2 o3 o4 o5 o6 q0 q1 q2 q3 q4 q5 q6 q7 q8
  go_wp2
  have HOW:=hid (show (w2.alloc (.cells #[] 9)).ownsRow w2.1.size 9 1 (.slice (some ⟨w2.1.size,0,none⟩) 0 0) (remN (rkS o.hs v.hold o.hn) 0) (strCells (remN (rkS o.hs v.hold o.hn) 0) (remS o.hs (rkS o.hs v.hold o.hn))) from by
   have:remN (rkS o.hs v.hold o.hn) 0=0:=by unfold remN;simp
   rw [this]
   simpa [strCells] using World.ownsRow_made (base:=w2.1.size) (e:=9) (size:=1) w2 #[] 0 Zd Zbw rfl)
  go_loopw [11,12] (fun u i wr=>∃ k:Nat,k≤o.hn∧i=.int .i64 k∧Hid (Below w2.1.size w2 wr∧wr.ownsRow w2.1.size 9 1 u (remN (rkS o.hs v.hold o.hn) k) (strCells (remN (rkS o.hs v.hold o.hn) k) (remS o.hs (rkS o.hs v.hold o.hn))))) (fun _ i _=>o.hn-(intOf i).toNat)
  case atStart=>exact ⟨0,Nat.zero_le _,rfl,hid ⟨below_alloc _ _,HOW.out⟩⟩
  case round=>
   obtain ⟨k,hk,rfl,HR⟩:=hrel
   have szW:=sz
   have zW:=z
   clear HOW b0 p5 r0 r1 r2 r3 r4 r5 r6 r7 r8 o0 o1 o2 o3 o4 o5 o6 q0 q1 q2 q3 q4 q5 q6 q7 q8 rf of qf z sz
   have HS:=hid (HS0.out.grow HR.out.1)
   have szR:=HR.out.1.size
   have z:=HS.out.z
   have sz:=HS.out.sz
   have b0:=HS.out.b0
   have p5:=HS.out.p5
   have r0:=HS.out.r.cell 0 Zb
   have r1:=HS.out.r.cell 1 Zb
   have r2:=HS.out.r.cell 2 Zb
   have r3:=HS.out.r.cell 3 Zb
   have r4:=HS.out.r.cell 4 Zb
   have r5:=HS.out.r.cell 5 Zb
   have r6:=HS.out.r.cell 6 Zb
   have r7:=HS.out.r.cell 7 Zb
   have r8:=HS.out.r.cell 8 Zb
   have o0:=HS.out.ob.cell 0 Zb
   have o1:=HS.out.ob.cell 1 Zb
   have o2:=HS.out.ob.cell 2 Zb
   have o3:=HS.out.ob.cell 3 Zb
   have o4:=HS.out.ob.cell 4 Zb
   have o5:=HS.out.ob.cell 5 Zb
   have o6:=HS.out.ob.cell 6 Zb
   have q0:=HS.out.ch.cell 0 Zb
   have q1:=HS.out.ch.cell 1 Zb
   have q2:=HS.out.ch.cell 2 Zb
   have q3:=HS.out.ch.cell 3 Zb
   have q4:=HS.out.ch.cell 4 Zb
   have q5:=HS.out.ch.cell 5 Zb
   have q6:=HS.out.ch.cell 6 Zb
   have q7:=HS.out.ch.cell 7 Zb
   have q8:=HS.out.ch.cell 8 Zb
   have rf:=HS.out.r.free
   have of:=HS.out.ob.free
   have qf:=HS.out.ch.free
   simp only [vec,List.getD_cons_zero,List.getD_cons_succ] at r0 r1 r2 r3 r4 r5 r6 r7 r8 o0 o1 o2 o3 o4 o5 o6 q0 q1 q2 q3 q4 q5 q6 q7 q8
   by_cases hkn:k<o.hn
   ·exact apP321
   ·obtain rfl:k=o.hn:=Za
    rw [remN_end HASC.out.1,HM.out] at HR
    obtain ⟨A3,C3,rfl,hown⟩:=own_strs5 (HR.out.2)
    have HW:=hid hown
    have HB5:=hid HS.out.bel
    clear hown
    by_cases hm:1000000≤B.now
    ·exact apP325
    ·have hcc:wCode B v=0:=by unfold wCode;rw [if_pos HOC.out,if_neg hm]
     have HCC:=hid hcc
     have hm2:B.now<1000000:=Za
     clear hcc hm
     go_wp2
     refine bodyPost_ret (v:=.tuple #[.agg #[.int .i64 (B.now+1),.bool false,.string o.kind,.string o.name,.int .i64 (B.now+1),.int .i64 o.born,.string o.text,.bool false,.slice A3 m C3],.int .i64 0]) Zbg rfl ⟨by repeat (first|with_reducible exact HB5.out|with_reducible refine Below.setCell ?_ Zj _|with_reducible refine Below.alloc ?_ Zj _|with_reducible refine Below.drew ?_),Or.inr ⟨HCC.out,A3,C3,?_,?_⟩⟩
     ·rw [HV.out]
     ·rw [HN.out]
      exact strs_keep HW.out Zau):P:=h
theorem chg_5f (B:Bk) (v:Wr) (a1 a2 a3:Option Addr) (c1 c2 c3:Nat) (o:Ob) (w:World) (hok:WOk B v) (hc:ObjsIn w 0 w.1.size a1 B.on B.os) (ho:fndOb B.os v.kind v.name B.on=o) (hol:(o.hn:Int)≤5) (ht:fndIs B.os v.kind v.name B.on=true) (hop:v.op=5) (hsv:v.seen=0∨(¬v.seen=0∧v.seen=o.ver)) (he:o.ending=false) (hh:hasB o.hn o.hs v.hold=true) (hasc:HsAsc o.hn o.hs) (m:Nat) (hm0:o.hn-1=m) (hoc:oCode B v=0) (hv:∀ (A:Option Addr) (C:Nat),(.agg #[.int .i64 (B.now+1),.bool false,.string o.kind,.string o.name,.int .i64 (B.now+1),.int .i64 o.born,.string o.text,.bool false,.slice A m C]:Value)=.agg #[.int .i64 (wCh B v).ver,.bool (wCh B v).gone,.string (wCh B v).ob.kind,.string (wCh B v).ob.name,.int .i64 (wCh B v).ob.ver,.int .i64 (wCh B v).ob.born,.string (wCh B v).ob.text,.bool (wCh B v).ob.ending,.slice A (wCh B v).ob.hn C]) (hhs:∀ (W:World) (A:Option Addr),StrsIn W 0 W.1.size A (wCh B v).ob.hn (wCh B v).ob.hs=StrsIn W 0 W.1.size A m (remS o.hs (rkS o.hs v.hold o.hn))) :
  Calls Tryz.prog 75 #[.agg #[.int .i64 B.now,.int .i64 B.floor,.slice a1 B.on c1,.slice a2 B.hn c2,.slice a3 B.tn c3],.agg #[.int .i64 v.op,.string v.kind,.string v.name,.int .i64 v.seen,.string v.text,.string v.hold]] w fun e w'=>ChgP B v w e w':=by
 have B3:∀ o1 o2 o3,Below w.1.size w (((w.alloc o1).alloc o2).alloc o3):=fun o1 o2 o3=>(((Below.refl _ _).alloc Zbt _).alloc Zd _).alloc Zc _
 have HB3:=hid B3
 have HOK:=hid hok
 have HC:=hid hc
 have HO:=hid ho
 have hn0:=hok.now0
 have hn1:=hok.now1
 have hon:(B.on:Int)≤100:=by have:=hok.on;omega
 have HON:=hid hon
 clear hok hc ho B3
 have HT:=hid ht
 have HOP:=hid hop
 clear ht hop
 have HE:=hid he
 clear he
 have HSV:=hid hsv
 clear hsv
 obtain ⟨i0,hi0,hz0,hz1,hz2⟩:=info_parts Tryz.info9
 have HASC:=hid (asc_one hasc hh)
 have HM:=hid hm0
 clear hasc hm0
 have HH:=hid hh
 clear hh
 have HOC:=hid hoc
 have HV:=hid hv
 have HN:=hid hhs
 clear hoc hv hhs
 go_enter Tryz.func75,Tryz.ntmps75
 go_wp2_with fail
 refine (specFind_any B.now B.floor B.on B.os a1 a2 a3 c1 B.hn c2 B.tn c3 v.kind v.name _ 0 w.1.size Zc Zax HOK.out.fit.os (HC.out.below (HB3.out _ _ _) Zbt)).mono ?_
 rintro e w1 ⟨A,C,rfl,hcap,hst,hb1⟩
 rw [HO.out] at hcap hst
 rw [HO.out,HT.out]
 have z1:w.1.size+1+1<w1.1.size:=by have:=hb1.size;simp at this;omega
 have zA:w.1.size<w1.1.size:=Za
 have zB:w.1.size+1<w1.1.size:=Za
 have zA2:w.1.size<w1.1.size+1:=Za
 have zA3:w.1.size<w1.1.size+1+1:=Za
 have zB2:w.1.size+1<w1.1.size+1:=Za
 have zB3:w.1.size+1<w1.1.size+1+1:=Za
 have zC2:w.1.size+1+1<w1.1.size+1:=Za
 have zC3:w.1.size+1+1<w1.1.size+1+1:=Za
 obtain ⟨X0,X1,X2,Y1,Y2⟩:=three_cell hb1
 have b0:=X0 0
 have b1:=X0 1
 have b2:=X0 2
 have b3:=X0 3
 have b4:=X0 4
 have p0:=X1 0
 have p1:=X1 1
 have p2:=X1 2
 have p3:=X1 3
 have p4:=X1 4
 have p5:=X1 5
 have r0:=X2 0
 have r1:=X2 1
 have r2:=X2 2
 have r3:=X2 3
 have r4:=X2 4
 have r5:=X2 5
 have r6:=X2 6
 have r7:=X2 7
 have r8:=X2 8
 simp only [List.getElem?_toArray,List.getElem?_cons_succ,List.getElem?_cons_zero] at b0 b1 b2 b3 b4 p0 p1 p2 p3 p4 p5 r0 r1 r2 r3 r4 r5 r6 r7 r8
 have HB:=hid ((HB3.out _ _ _).trans (hb1.mono Zc))
 have HST:=hid hst
 clear X0 X1 X2 hb1 hst
 have hw:IntKind.i64.wrap (B.now+1)=B.now+1:=IntWalk.i64_in _ ⟨Za,Za⟩
 simp only [World.size_alloc] at HST
 rw [HOP.out] at p0
 rw [HE.out]
 rcases HSV.out with hs|⟨hs0,hs⟩
 ·rw [hs] at p3
  clear hs
  exact apP323
 ·rw [hs] at p3
  have hsb:(o.ver != 0)=true:=by rw [←hs];simpa using hs0
  clear hs hs0
  exact apP323
theorem apP322 {P:Prop} (h:P:=by
  go_wp2_with fail
  refine (l2Has_any o.hn o.hs A C v.hold _ 0 _ Za (strs_keep HST.out Zg)).mono ?_
  rintro e w2 ⟨rfl,hw2⟩
  rw [HH.out]
  have HS0:=hid (s5_of (e:=true) (B:=B) (v:=v) (o:=o) hw2 z1 HB.out b0 p5 Y2 r0 r1 r2 r3 r4 r5 r6 r7 r8 (by rw [hw2];exact strs_keep HST.out Zg))
  clear b0 b1 b2 b3 b4 p0 p1 p2 p3 p4 p5 r0 r1 r2 r3 r4 r5 r6 r7 r8 Y1 Y2 z1 zA zB zA2 zA3 zB2 zB3 zC2 zC3
  generalize hn1:w1.1.size=n1 at *
  clear hn1 hw2 HB HST
  have z:=HS0.out.z
  have sz:=HS0.out.sz
  have b0:=HS0.out.b0
  have p5:=HS0.out.p5
  have r0:=HS0.out.r.cell 0 Zb
  have r1:=HS0.out.r.cell 1 Zb
  have r2:=HS0.out.r.cell 2 Zb
  have r3:=HS0.out.r.cell 3 Zb
  have r4:=HS0.out.r.cell 4 Zb
  have r5:=HS0.out.r.cell 5 Zb
  have r6:=HS0.out.r.cell 6 Zb
  have r7:=HS0.out.r.cell 7 Zb
  have r8:=HS0.out.r.cell 8 Zb
  have o0:=HS0.out.ob.cell 0 Zb
  have o1:=HS0.out.ob.cell 1 Zb
  have o2:=HS0.out.ob.cell 2 Zb
  have o3:=HS0.out.ob.cell 3 Zb
  have o4:=HS0.out.ob.cell 4 Zb
  have o5:=HS0.out.ob.cell 5 Zb
  have o6:=HS0.out.ob.cell 6 Zb
  have q0:=HS0.out.ch.cell 0 Zb
  have q1:=HS0.out.ch.cell 1 Zb
  have q2:=HS0.out.ch.cell 2 Zb
  have q3:=HS0.out.ch.cell 3 Zb
  have q4:=HS0.out.ch.cell 4 Zb
  have q5:=HS0.out.ch.cell 5 Zb
  have q6:=HS0.out.ch.cell 6 Zb
  have q7:=HS0.out.ch.cell 7 Zb
  have q8:=HS0.out.ch.cell 8 Zb
  have rf:=HS0.out.r.free
  have of:=HS0.out.ob.free
  have qf:=HS0.out.ch.free
  simp only [vec,List.getD_cons_zero,List.getD_cons_succ] at r0 r1 r2 r3 r4 r5 r6 r7 r8 o0 o1 o2 o3 o4 o5 o6 q0 q1 q2 q3 q4 q5 q6 q7 q8
  go_wp2
  have HOW:=hid (show (w2.alloc (.cells #[] 9)).ownsRow w2.1.size 9 1 (.slice (some ⟨w2.1.size,0,none⟩) 0 0) (remN (rkS o.hs v.hold o.hn) 0) (strCells (remN (rkS o.hs v.hold o.hn) 0) (remS o.hs (rkS o.hs v.hold o.hn))) from by
   have:remN (rkS o.hs v.hold o.hn) 0=0:=by unfold remN;simp
   rw [this]
   simpa [strCells] using World.ownsRow_made (base:=w2.1.size) (e:=9) (size:=1) w2 #[] 0 Zd Zbw rfl)
  go_loopw [11,12] (fun u i wr=>∃ k:Nat,k≤o.hn∧i=.int .i64 k∧Hid (Below w2.1.size w2 wr∧wr.ownsRow w2.1.size 9 1 u (remN (rkS o.hs v.hold o.hn) k) (strCells (remN (rkS o.hs v.hold o.hn) k) (remS o.hs (rkS o.hs v.hold o.hn))))) (fun _ i _=>o.hn-(intOf i).toNat)
  case atStart=>exact ⟨0,Nat.zero_le _,rfl,hid ⟨below_alloc _ _,HOW.out⟩⟩
  case round=>
   obtain ⟨k,hk,rfl,HR⟩:=hrel
   have szW:=sz
   have zW:=z
   clear HOW b0 p5 r0 r1 r2 r3 r4 r5 r6 r7 r8 o0 o1 o2 o3 o4 o5 o6 q0 q1 q2 q3 q4 q5 q6 q7 q8 rf of qf z sz
   have HS:=hid (HS0.out.grow HR.out.1)
   have szR:=HR.out.1.size
   have z:=HS.out.z
   have sz:=HS.out.sz
   have b0:=HS.out.b0
   have p5:=HS.out.p5
   have r0:=HS.out.r.cell 0 Zb
   have r1:=HS.out.r.cell 1 Zb
   have r2:=HS.out.r.cell 2 Zb
   have r3:=HS.out.r.cell 3 Zb
   have r4:=HS.out.r.cell 4 Zb
   have r5:=HS.out.r.cell 5 Zb
   have r6:=HS.out.r.cell 6 Zb
   have r7:=HS.out.r.cell 7 Zb
   have r8:=HS.out.r.cell 8 Zb
   have o0:=HS.out.ob.cell 0 Zb
   have o1:=HS.out.ob.cell 1 Zb
   have o2:=HS.out.ob.cell 2 Zb
   have o3:=HS.out.ob.cell 3 Zb
   have o4:=HS.out.ob.cell 4 Zb
   have o5:=HS.out.ob.cell 5 Zb
   have o6:=HS.out.ob.cell 6 Zb
   have q0:=HS.out.ch.cell 0 Zb
   have q1:=HS.out.ch.cell 1 Zb
   have q2:=HS.out.ch.cell 2 Zb
   have q3:=HS.out.ch.cell 3 Zb
   have q4:=HS.out.ch.cell 4 Zb
   have q5:=HS.out.ch.cell 5 Zb
   have q6:=HS.out.ch.cell 6 Zb
   have q7:=HS.out.ch.cell 7 Zb
   have q8:=HS.out.ch.cell 8 Zb
   have rf:=HS.out.r.free
   have of:=HS.out.ob.free
   have qf:=HS.out.ch.free
   simp only [vec,List.getD_cons_zero,List.getD_cons_succ] at r0 r1 r2 r3 r4 r5 r6 r7 r8 o0 o1 o2 o3 o4 o5 o6 q0 q1 q2 q3 q4 q5 q6 q7 q8
   by_cases hkn:k<o.hn
   ·exact apP321
   ·obtain rfl:k=o.hn:=Za
    rw [remN_end HASC.out.1,HM.out] at HR
    obtain ⟨A3,C3,rfl,hown⟩:=own_strs5 (HR.out.2)
    have HW:=hid hown
    have HB5:=hid HS.out.bel
    clear hown
    by_cases hm:1000000≤B.now
    ·exact apP325
    ·have hcc:wCode B v=0:=by unfold wCode;rw [if_pos HOC.out,if_neg hm]
     have HCC:=hid hcc
     have hm2:B.now<1000000:=Za
     clear hcc hm
     go_wp2
     refine bodyPost_ret (v:=.tuple #[.agg #[.int .i64 (B.now+1),.bool ((m:Int)==0),.string o.kind,.string o.name,.int .i64 (B.now+1),.int .i64 o.born,.string o.text,.bool true,.slice A3 m C3],.int .i64 0]) Zbg rfl ⟨by repeat (first|with_reducible exact HB5.out|with_reducible refine Below.setCell ?_ Zj _|with_reducible refine Below.alloc ?_ Zj _|with_reducible refine Below.drew ?_),Or.inr ⟨HCC.out,A3,C3,?_,?_⟩⟩
     ·rw [HV.out]
     ·rw [HN.out]
      exact strs_keep HW.out Zau):P:=h
theorem chg_5t (B:Bk) (v:Wr) (a1 a2 a3:Option Addr) (c1 c2 c3:Nat) (o:Ob) (w:World) (hok:WOk B v) (hc:ObjsIn w 0 w.1.size a1 B.on B.os) (ho:fndOb B.os v.kind v.name B.on=o) (hol:(o.hn:Int)≤5) (ht:fndIs B.os v.kind v.name B.on=true) (hop:v.op=5) (hsv:v.seen=0∨(¬v.seen=0∧v.seen=o.ver)) (he:o.ending=true) (hh:hasB o.hn o.hs v.hold=true) (hasc:HsAsc o.hn o.hs) (m:Nat) (hm0:o.hn-1=m) (hoc:oCode B v=0) (hv:∀ (A:Option Addr) (C:Nat),(.agg #[.int .i64 (B.now+1),.bool ((m:Int)==0),.string o.kind,.string o.name,.int .i64 (B.now+1),.int .i64 o.born,.string o.text,.bool true,.slice A m C]:Value)=.agg #[.int .i64 (wCh B v).ver,.bool (wCh B v).gone,.string (wCh B v).ob.kind,.string (wCh B v).ob.name,.int .i64 (wCh B v).ob.ver,.int .i64 (wCh B v).ob.born,.string (wCh B v).ob.text,.bool (wCh B v).ob.ending,.slice A (wCh B v).ob.hn C]) (hhs:∀ (W:World) (A:Option Addr),StrsIn W 0 W.1.size A (wCh B v).ob.hn (wCh B v).ob.hs=StrsIn W 0 W.1.size A m (remS o.hs (rkS o.hs v.hold o.hn))) :
  Calls Tryz.prog 75 #[.agg #[.int .i64 B.now,.int .i64 B.floor,.slice a1 B.on c1,.slice a2 B.hn c2,.slice a3 B.tn c3],.agg #[.int .i64 v.op,.string v.kind,.string v.name,.int .i64 v.seen,.string v.text,.string v.hold]] w fun e w'=>ChgP B v w e w':=by
 have B3:∀ o1 o2 o3,Below w.1.size w (((w.alloc o1).alloc o2).alloc o3):=fun o1 o2 o3=>(((Below.refl _ _).alloc Zbt _).alloc Zd _).alloc Zc _
 have HB3:=hid B3
 have HOK:=hid hok
 have HC:=hid hc
 have HO:=hid ho
 have hn0:=hok.now0
 have hn1:=hok.now1
 have hon:(B.on:Int)≤100:=by have:=hok.on;omega
 have HON:=hid hon
 clear hok hc ho B3
 have HT:=hid ht
 have HOP:=hid hop
 clear ht hop
 have HE:=hid he
 clear he
 have HSV:=hid hsv
 clear hsv
 obtain ⟨i0,hi0,hz0,hz1,hz2⟩:=info_parts Tryz.info9
 have HASC:=hid (asc_one hasc hh)
 have HM:=hid hm0
 clear hasc hm0
 have HH:=hid hh
 clear hh
 have HOC:=hid hoc
 have HV:=hid hv
 have HN:=hid hhs
 clear hoc hv hhs
 go_enter Tryz.func75,Tryz.ntmps75
 go_wp2_with fail
 refine (specFind_any B.now B.floor B.on B.os a1 a2 a3 c1 B.hn c2 B.tn c3 v.kind v.name _ 0 w.1.size Zc Zax HOK.out.fit.os (HC.out.below (HB3.out _ _ _) Zbt)).mono ?_
 rintro e w1 ⟨A,C,rfl,hcap,hst,hb1⟩
 rw [HO.out] at hcap hst
 rw [HO.out,HT.out]
 have z1:w.1.size+1+1<w1.1.size:=by have:=hb1.size;simp at this;omega
 have zA:w.1.size<w1.1.size:=Za
 have zB:w.1.size+1<w1.1.size:=Za
 have zA2:w.1.size<w1.1.size+1:=Za
 have zA3:w.1.size<w1.1.size+1+1:=Za
 have zB2:w.1.size+1<w1.1.size+1:=Za
 have zB3:w.1.size+1<w1.1.size+1+1:=Za
 have zC2:w.1.size+1+1<w1.1.size+1:=Za
 have zC3:w.1.size+1+1<w1.1.size+1+1:=Za
 obtain ⟨X0,X1,X2,Y1,Y2⟩:=three_cell hb1
 have b0:=X0 0
 have b1:=X0 1
 have b2:=X0 2
 have b3:=X0 3
 have b4:=X0 4
 have p0:=X1 0
 have p1:=X1 1
 have p2:=X1 2
 have p3:=X1 3
 have p4:=X1 4
 have p5:=X1 5
 have r0:=X2 0
 have r1:=X2 1
 have r2:=X2 2
 have r3:=X2 3
 have r4:=X2 4
 have r5:=X2 5
 have r6:=X2 6
 have r7:=X2 7
 have r8:=X2 8
 simp only [List.getElem?_toArray,List.getElem?_cons_succ,List.getElem?_cons_zero] at b0 b1 b2 b3 b4 p0 p1 p2 p3 p4 p5 r0 r1 r2 r3 r4 r5 r6 r7 r8
 have HB:=hid ((HB3.out _ _ _).trans (hb1.mono Zc))
 have HST:=hid hst
 clear X0 X1 X2 hb1 hst
 have hw:IntKind.i64.wrap (B.now+1)=B.now+1:=IntWalk.i64_in _ ⟨Za,Za⟩
 simp only [World.size_alloc] at HST
 rw [HOP.out] at p0
 rw [HE.out]
 rcases HSV.out with hs|⟨hs0,hs⟩
 ·rw [hs] at p3
  clear hs
  exact apP322
 ·rw [hs] at p3
  have hsb:(o.ver != 0)=true:=by rw [←hs];simpa using hs0
  clear hs hs0
  exact apP322
theorem wOf_is {B:Bk} {v:Wr} (hok:WOk B v):(wOf B v).hn≤5∧HsAsc (wOf B v).hn (wOf B v).hs∧(fndIs B.os v.kind v.name B.on=false→wOf B v=ob0):=by
 unfold wOf fndOb fndIs
 cases h:fnd B.os v.kind v.name B.on with
 | none=>exact ⟨Nat.zero_le _,fun i j _ h2=>absurd h2 (Nat.not_lt_zero _),fun _=>rfl⟩
 | some i=>
  have h1:=hok.hold i (fnd_lt h).1
  exact ⟨h1.1,h1.2,fun h2=>by simp at h2⟩
theorem chg_err {B:Bk} {v:Wr} {w:World} {c:Int} (hc:oCode B v=c) (h0:¬c=0) {e:Ending} {w':World} (h:e=.returned (.tuple #[.agg #[.int .i64 0,.bool false,.string ⟨#[]⟩,.string ⟨#[]⟩,.int .i64 0,.int .i64 0,.string ⟨#[]⟩,.bool false,.slice none 0 0],.int .i64 c])∧Below w.1.size w w'):ChgP B v w e w':=by
 have hw:wCode B v=c:=by unfold wCode;rw [hc,if_neg h0]
 exact ⟨h.2,Or.inl ⟨by rw [hw];exact h0,by rw [hw];exact h.1⟩⟩
theorem op1_seen {v:Wr} (h:wrB v=true) (h1:v.op=1):v.seen=0:=by
 unfold wrB at h
 rw [Bool.and_eq_true] at h
 have h2:=h.2
 unfold useB at h2
 rw [if_pos h1] at h2
 exact of_decide_eq_true h2
theorem gone_is (n:Nat):(!(!true||decide (0<n)))=((n:Int)==0):=by
 cases n with
 | zero=>rfl
 | succ k=>simp;omega
theorem chg_any (B:Bk) (v:Wr) (a1 a2 a3:Option Addr) (c1 c2 c3:Nat) (w:World) (hok:WOk B v) (hc:ObjsIn w 0 w.1.size a1 B.on B.os) :
  Calls Tryz.prog 75 #[.agg #[.int .i64 B.now,.int .i64 B.floor,.slice a1 B.on c1,.slice a2 B.hn c2,.slice a3 B.tn c3],.agg #[.int .i64 v.op,.string v.kind,.string v.name,.int .i64 v.seen,.string v.text,.string v.hold]] w fun e w'=>ChgP B v w e w':=by
 obtain ⟨hl,hasc,hno⟩:=wOf_is hok
 have hol:((wOf B v).hn:Int)≤5:=Za
 cases ht:fndIs B.os v.kind v.name B.on with
 | false=>
  by_cases h1:v.op=1
  ·have hw:=hno ht
   have hs:=op1_seen hok.wr h1
   have he:(wOf B v).ending=false:=by rw [hw];rfl
   have hoc:=oc_new ht hw h1 hs
   by_cases h100:100≤B.on
   ·rw [if_pos h100] at hoc
    exact (chg_1f B v a1 a2 a3 c1 c2 c3 (wOf B v) w hok hc rfl hol ht h1 hs he h100).mono (fun _ _ h=>chg_err hoc Zb h)
   ·rw [if_neg h100] at hoc
    by_cases hh0:v.hold=⟨#[]⟩
    ·have hx:wOb B v=⟨v.kind,v.name,B.now+1,B.now+1,v.text,false,0,fun _=>v.hold⟩:=by
      unfold wOb opOb
      rw [if_pos h1,if_pos (by simp [emB,hh0])]
     have hg:wGone B v=false:=by unfold wGone;rw [hx];simp [standB]
     exact chg_1e B v a1 a2 a3 c1 c2 c3 (wOf B v) w hok hc rfl hol ht h1 hoc hs he hh0 h100 (by show _=Value.agg #[.int .i64 (B.now+1),.bool (wGone B v),.string (wOb B v).kind,.string (wOb B v).name,.int .i64 (wOb B v).ver,.int .i64 (wOb B v).born,.string (wOb B v).text,.bool (wOb B v).ending,.slice _ (wOb B v).hn _];rw [hg,hx]) (fun W A=>by show StrsIn W 0 _ A (wOb B v).hn (wOb B v).hs=_;rw [hx])
    ·have hx:wOb B v=⟨v.kind,v.name,B.now+1,B.now+1,v.text,false,1,fun _=>v.hold⟩:=by
      unfold wOb opOb
      rw [if_pos h1,if_neg (by simp [emB,hh0])]
     have hg:wGone B v=false:=by unfold wGone;rw [hx];simp [standB]
     exact chg_1h B v a1 a2 a3 c1 c2 c3 (wOf B v) w hok hc rfl hol ht h1 hoc hs he hh0 h100 (fun _ _=>by show _=Value.agg #[.int .i64 (B.now+1),.bool (wGone B v),.string (wOb B v).kind,.string (wOb B v).name,.int .i64 (wOb B v).ver,.int .i64 (wOb B v).born,.string (wOb B v).text,.bool (wOb B v).ending,.slice _ (wOb B v).hn _];rw [hg,hx]) (fun W A=>by show StrsIn W 0 _ A (wOb B v).hn (wOb B v).hs=_;rw [hx])
  ·exact (chg3_none B v a1 a2 a3 c1 c2 c3 (wOf B v) w hok hc rfl hol ht h1).mono (fun _ _ h=>chg_err (oc_none ht h1).1 Zb h)
 | true=>
  by_cases h1:v.op=1
  ·exact (chg3_there B v a1 a2 a3 c1 c2 c3 (wOf B v) w hok hc rfl hol ht h1).mono (fun _ _ h=>chg_err (oc_there ht h1).1 Zb h)
  by_cases hst:¬v.seen=0∧¬v.seen=(wOf B v).ver
  ·exact (chg4 B v a1 a2 a3 c1 c2 c3 (wOf B v) w hok hc rfl hol ht h1 hst.1 hst.2).mono (fun _ _ h=>chg_err (oc_stale ht h1 hst).1 Zb h)
  have hsv:v.seen=0∨(¬v.seen=0∧v.seen=(wOf B v).ver):=by
   by_cases h:v.seen=0
   ·exact Or.inl h
   ·exact Or.inr ⟨h,Classical.byContradiction (fun q=>hst ⟨h,q⟩)⟩
  by_cases hend:(wOf B v).ending=true∧¬v.op=5
  ·exact (chg5 B v a1 a2 a3 c1 c2 c3 (wOf B v) w hok hc rfl hol ht h1 hend.2 hsv hend.1).mono (fun _ _ h=>chg_err (oc_end ht h1 hst hend.1 hend.2).1 Zb h)
  have hoc:=oc_go ht h1 hst hend
  have he:¬v.op=5→(wOf B v).ending=false:=fun h5=>by
   cases h:(wOf B v).ending with
   | false=>rfl
   | true=>exact absurd ⟨h,h5⟩ hend
  rcases op_range hok.wr with h|h|h|h|h
  ·exact absurd h h1
  ·have he:=he Za
   rw [if_neg Za,if_neg Za] at hoc
   have hx:wOb B v=⟨(wOf B v).kind,(wOf B v).name,B.now+1,(wOf B v).born,v.text,false,(wOf B v).hn,(wOf B v).hs⟩:=by
    unfold wOb opOb
    rw [if_neg h1,if_pos h,he]
   have hg:wGone B v=false:=by unfold wGone;rw [hx];simp [standB]
   exact chg_2 B v a1 a2 a3 c1 c2 c3 (wOf B v) w hok hc rfl hol ht h hoc hsv he (fun _ _=>by show _=Value.agg #[.int .i64 (B.now+1),.bool (wGone B v),.string (wOb B v).kind,.string (wOb B v).name,.int .i64 (wOb B v).ver,.int .i64 (wOb B v).born,.string (wOb B v).text,.bool (wOb B v).ending,.slice _ (wOb B v).hn _];rw [hg,hx]) (fun W A=>by show StrsIn W 0 _ A (wOb B v).hn (wOb B v).hs=_;rw [hx])
  ·have he:=he Za
   rw [if_neg Za,if_neg Za] at hoc
   have hx:wOb B v=⟨(wOf B v).kind,(wOf B v).name,B.now+1,(wOf B v).born,(wOf B v).text,true,(wOf B v).hn,(wOf B v).hs⟩:=by
    unfold wOb opOb
    rw [if_neg h1,if_neg Za,if_pos h]
   have hg:wGone B v=(((wOf B v).hn:Int)==0):=by unfold wGone;rw [hx];exact gone_is _
   exact chg_3 B v a1 a2 a3 c1 c2 c3 (wOf B v) w hok hc rfl hol ht h hoc hsv he (fun _ _=>by show _=Value.agg #[.int .i64 (B.now+1),.bool (wGone B v),.string (wOb B v).kind,.string (wOb B v).name,.int .i64 (wOb B v).ver,.int .i64 (wOb B v).born,.string (wOb B v).text,.bool (wOb B v).ending,.slice _ (wOb B v).hn _];rw [hg,hx]) (fun W A=>by show StrsIn W 0 _ A (wOb B v).hn (wOb B v).hs=_;rw [hx])
  ·have he:=he Za
   rw [if_pos h] at hoc
   cases hh:hasB (wOf B v).hn (wOf B v).hs v.hold with
   | true=>
    rw [hh,if_pos rfl] at hoc
    exact (chg_4h B v a1 a2 a3 c1 c2 c3 (wOf B v) w hok hc rfl hol ht h hsv he hh).mono (fun _ _ h=>chg_err hoc Zb h)
   | false=>
    rw [hh,if_neg Zb] at hoc
    by_cases h5:5≤(wOf B v).hn
    ·rw [if_pos h5] at hoc
     exact (chg_4f B v a1 a2 a3 c1 c2 c3 (wOf B v) w hok hc rfl hol ht h hsv he hh Za).mono (fun _ _ h=>chg_err hoc Zb h)
    ·rw [if_neg h5] at hoc
     have hx:wOb B v=⟨(wOf B v).kind,(wOf B v).name,B.now+1,(wOf B v).born,(wOf B v).text,false,(wOf B v).hn+1,insS (wOf B v).hs (rkS (wOf B v).hs v.hold (wOf B v).hn) v.hold⟩:=by
      unfold wOb opOb
      rw [if_neg h1,if_neg Za,if_neg Za,if_pos h,he]
     have hg:wGone B v=false:=by unfold wGone;rw [hx];simp [standB]
     exact chg_4 B v a1 a2 a3 c1 c2 c3 (wOf B v) w hok hc rfl hol ht h hsv he hh Za hoc (fun _ _=>by show _=Value.agg #[.int .i64 (B.now+1),.bool (wGone B v),.string (wOb B v).kind,.string (wOb B v).name,.int .i64 (wOb B v).ver,.int .i64 (wOb B v).born,.string (wOb B v).text,.bool (wOb B v).ending,.slice _ (wOb B v).hn _];rw [hg,hx]) (fun W A=>by show StrsIn W 0 _ A (wOb B v).hn (wOb B v).hs=_;rw [hx])
  ·rw [if_neg Za,if_pos h] at hoc
   cases hh:hasB (wOf B v).hn (wOf B v).hs v.hold with
   | false=>
    rw [hh,if_neg Zb] at hoc
    exact (chg_5n B v a1 a2 a3 c1 c2 c3 (wOf B v) w hok hc rfl hol ht h hsv hh).mono (fun _ _ h=>chg_err hoc Zb h)
   | true=>
    rw [hh,if_pos rfl] at hoc
    have hx0:wOb B v=⟨(wOf B v).kind,(wOf B v).name,B.now+1,(wOf B v).born,(wOf B v).text,(wOf B v).ending,(wOf B v).hn-1,remS (wOf B v).hs (rkS (wOf B v).hs v.hold (wOf B v).hn)⟩:=by
     unfold wOb opOb
     rw [if_neg h1,if_neg Za,if_neg Za,if_neg Za]
    cases hE:(wOf B v).ending with
    | false=>
     have hx:=hx0
     rw [hE] at hx
     have hg:wGone B v=false:=by unfold wGone;rw [hx];simp [standB]
     exact chg_5f B v a1 a2 a3 c1 c2 c3 (wOf B v) w hok hc rfl hol ht h hsv hE hh hasc _ rfl hoc (fun _ _=>by show _=Value.agg #[.int .i64 (B.now+1),.bool (wGone B v),.string (wOb B v).kind,.string (wOb B v).name,.int .i64 (wOb B v).ver,.int .i64 (wOb B v).born,.string (wOb B v).text,.bool (wOb B v).ending,.slice _ (wOb B v).hn _];rw [hg,hx]) (fun W A=>by show StrsIn W 0 _ A (wOb B v).hn (wOb B v).hs=_;rw [hx])
    | true=>
     have hx:=hx0
     rw [hE] at hx
     have hg:wGone B v=((((wOf B v).hn-1:Nat):Int)==0):=by unfold wGone;rw [hx];exact gone_is _
     exact chg_5t B v a1 a2 a3 c1 c2 c3 (wOf B v) w hok hc rfl hol ht h hsv hE hh hasc _ rfl hoc (fun _ _=>by show _=Value.agg #[.int .i64 (B.now+1),.bool (wGone B v),.string (wOb B v).kind,.string (wOb B v).name,.int .i64 (wOb B v).ver,.int .i64 (wOb B v).born,.string (wOb B v).text,.bool (wOb B v).ending,.slice _ (wOb B v).hn _];rw [hg,hx]) (fun W A=>by show StrsIn W 0 _ A (wOb B v).hn (wOb B v).hs=_;rw [hx])
end Go.Proofs.YtllmmkchokkaaaaGreatDoor
