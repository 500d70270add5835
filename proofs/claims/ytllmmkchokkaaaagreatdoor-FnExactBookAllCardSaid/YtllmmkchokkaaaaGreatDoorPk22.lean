import Derived.Test.YtllmmkchokkaaaaGreatDoorPk20
import Derived.Test.YtllmmkchokkaaaaGreatDoorPk21
set_option maxRecDepth 100000
set_option maxHeartbeats 4000000
namespace Go.Proofs.YtllmmkchokkaaaaGreatDoor
open Go.RowKit Go.Maps
theorem create_found (D K:Nat) (v:Wr) (pl:Int) (w:World) (hD:D<w.1.size) (hd:DeskAt w D K v pl true) :
  Calls Tryz.prog 97 #[.pointer (some ⟨D,0,none⟩)] w fun e w'=>e=.returned (.tuple #[.agg #[.string ⟨#[]⟩,.string ⟨#[]⟩,.int .i64 0,.int .i64 0,.string ⟨#[]⟩,.bool false,.slice none 0 0],.iface 90 (.agg #[.int .i64 3,.int .i64 0])])∧Below w.1.size w w':=by
 obtain ⟨c0,c1,c2,c3,c4,c5,c6,c7,c8⟩:=hd
 go_enter Tryz.func97,Tryz.ntmps97
 go_wp2
 refine bodyPost_ret (v:=.tuple #[.agg #[.string ⟨#[]⟩,.string ⟨#[]⟩,.int .i64 0,.int .i64 0,.string ⟨#[]⟩,.bool false,.slice none 0 0],.iface 90 (.agg #[.int .i64 3,.int .i64 0])]) (by simp [results,Tryz.results97,go_sem]) rfl ⟨rfl,below_alloc _ _⟩
theorem create_full (D K:Nat) (v:Wr) (pl:Int) (ad:Option Addr) (n cap:Nat) (w:World) (hD:D<w.1.size) (hK:K<w.1.size) (hd:DeskAt w D K v pl false) (hk:w.cell? ⟨K,2,none⟩=some (.slice ad n cap)) (hn:n=100) :
  Calls Tryz.prog 97 #[.pointer (some ⟨D,0,none⟩)] w fun e w'=>e=.returned (.tuple #[.agg #[.string ⟨#[]⟩,.string ⟨#[]⟩,.int .i64 0,.int .i64 0,.string ⟨#[]⟩,.bool false,.slice none 0 0],.iface 90 (.agg #[.int .i64 7,.int .i64 0])])∧Below w.1.size w w':=by
 subst hn
 obtain ⟨c0,c1,c2,c3,c4,c5,c6,c7,c8⟩:=hd
 go_enter Tryz.func97,Tryz.ntmps97
 go_wp2
 refine bodyPost_ret (v:=.tuple #[.agg #[.string ⟨#[]⟩,.string ⟨#[]⟩,.int .i64 0,.int .i64 0,.string ⟨#[]⟩,.bool false,.slice none 0 0],.iface 90 (.agg #[.int .i64 7,.int .i64 0])]) (by simp [results,Tryz.results97,go_sem]) rfl ⟨rfl,below_alloc _ _⟩
theorem row7 {w:World} {g:Nat} {c:Nat→Value} {v0 v1 v2 v3 v4 v5 v6:Value} (h:RowF w g 7 c):RowF (((((((w.setCell ⟨g,0,none⟩ v0).setCell ⟨g,1,none⟩ v1).setCell ⟨g,2,none⟩ v2).setCell ⟨g,3,none⟩ v3).setCell ⟨g,4,none⟩ v4).setCell ⟨g,5,none⟩ v5).setCell ⟨g,6,none⟩ v6) g 7 (vec [v0,v1,v2,v3,v4,v5,v6]):=by
 have H:=((((((h.set (o:=0) Za v0).set (o:=1) Za v1).set (o:=2) Za v2).set (o:=3) Za v3).set (o:=4) Za v4).set (o:=5) Za v5).set (o:=6) Za v6
 refine ⟨H.lt,H.free,fun j hj=>(H.cell j hj).trans ?_⟩
 rcases (show j=0∨j=1∨j=2∨j=3∨j=4∨j=5∨j=6 by omega) with rfl|rfl|rfl|rfl|rfl|rfl|rfl<;>rfl
theorem set7 {w w':World} {B g:Nat} (h:Below B w w') (hg:B≤g) (v0 v1 v2 v3 v4 v5 v6:Value):Below B w (((((((w'.setCell ⟨g,0,none⟩ v0).setCell ⟨g,1,none⟩ v1).setCell ⟨g,2,none⟩ v2).setCell ⟨g,3,none⟩ v3).setCell ⟨g,4,none⟩ v4).setCell ⟨g,5,none⟩ v5).setCell ⟨g,6,none⟩ v6):=
 ((((((h.setCell hg _).setCell hg _).setCell hg _).setCell hg _).setCell hg _).setCell hg _).setCell hg _
def crReg5G (D K:Nat) (y:Wr) (_pl:Int) (_fo:Bool) (now:Int) (W:World) (i:Nat) (v:Value) (X:World):Prop:=
 match i with
 | 0=>v=.pointer (some ⟨D,0,none⟩)
 | 1=>v=.pointer (some ⟨D,0,none⟩)
 | 2=>v=.pointer (some ⟨D,1,none⟩)
 | 3=>v=.pointer (some ⟨D,2,none⟩)
 | 4=>v=.string y.kind
 | 5=>v=.pointer (some ⟨D,0,none⟩)
 | 6=>v=.pointer (some ⟨D,0,none⟩)
 | 7=>v=.pointer (some ⟨D,1,none⟩)
 | 8=>v=.pointer (some ⟨D,3,none⟩)
 | 9=>v=.string y.name
 | 10=>v=.pointer (some ⟨D,0,none⟩)
 | 11=>v=.pointer (some ⟨D,0,none⟩)
 | 12=>v=.pointer (some ⟨D,0,none⟩)
 | 13=>v=.pointer (some ⟨K,0,none⟩)
 | 14=>v=.pointer (some ⟨K,0,none⟩)
 | 15=>v=.pointer (some ⟨K,0,none⟩)
 | 16=>v=.int .i64 now
 | 17=>v=.int .i64 (now+1)
 | 18=>v=.pointer (some ⟨D,0,none⟩)
 | 19=>v=.pointer (some ⟨D,0,none⟩)
 | 20=>v=.pointer (some ⟨D,1,none⟩)
 | 21=>v=.pointer (some ⟨D,5,none⟩)
 | 22=>v=.string y.text
 | 23=>v=.agg #[.string y.kind,.string y.name,.int .i64 0,.int .i64 (now+1),.string y.text,.bool false,.slice none 0 0]
 | 24=>∃ b,v=.pointer (some ⟨b,0,none⟩)∧W.1.size≤b∧b<X.1.size∧RowF X b 7 (vec [.string ⟨#[]⟩,.string ⟨#[]⟩,.int .i64 0,.int .i64 0,.string ⟨#[]⟩,.bool false,.slice none 0 0])
 | _=>True
theorem apP221 {P:Prop} (h:P:=by
  have h:=hKK (.pointer (some ⟨D,0,none⟩)) X rfl Zbv
  refine wpOp_of rfl rfl ?_
  clear hKK hg
  go_simp
  simpa [updT] using h):P:=h
theorem crReg5 (p1 p2 p3 p5 p6 p7 p8 p9 p10 p11 p12 p13 p14 p15 p16 p17 p18 p19 p20 p21 p22 p23 p48 p49 p50 p51 p52 p53 p54 p55 p56 p57 p58 p59 p60 p61:Value) (t0:Nat→Value) (D K:Nat) (y:Wr) (pl:Int) (fo:Bool) (now:Int) (W:World) (hD:D<W.1.size) (hK:K<W.1.size) (hd:DeskAt W D K y pl fo) (hn:W.cell? ⟨K,0,none⟩=some (.int .i64 now)) (h0:0≤now) (h1:now≤1000000) (Q:Exit→Act→World→Prop) (hQ:∀ (t:Nat→Value) (_v3:Value) X,(∃ b,t 24=.pointer (some ⟨b,0,none⟩)∧W.1.size≤b∧b<X.1.size∧RowF X b 7 (vec [.string y.kind,.string y.name,.int .i64 0,.int .i64 (now+1),.string y.text,.bool false,.slice none 0 0])∧Below W.1.size W X)→Q .normal ⟨#[.pointer (some ⟨D,0,none⟩),p1,p2,p3,t 24,p5,p6,p7,p8,p9,p10,p11,p12,p13,p14,p15,p16,p17,p18,p19,p20,p21,p22,p23,t 0,t 1,t 2,t 3,t 4,t 5,t 6,t 7,t 8,t 9,t 10,t 11,t 12,t 13,t 14,t 15,t 16,t 17,t 18,t 19,t 20,t 21,t 22,t 23,p48,p49,p50,p51,p52,p53,p54,p55,p56,p57,p58,p59,p60,p61],[]⟩ X) :
  Code.wp Tryz.prog (Code.region 5 #[⟨some 24,.move (.tmp 0),196, "l2_book_write.go:158",#[],none⟩,⟨some 25,.nilCheck (.tmp 24),0, "l2_book_write.go:158",#[⟨0,.data⟩],none⟩,⟨some 26,.fieldAddr 141 (.tmp 25) 1,0, "l2_book_write.go:158",#[⟨1,.data⟩],none⟩,⟨some 27,.fieldAddr 40 (.tmp 26) 1,0, "l2_book_write.go:158",#[⟨2,.data⟩],none⟩,⟨some 28,.load 9 (.tmp 27),9, "l2_book_write.go:158",#[⟨3,.data⟩],none⟩,⟨some 29,.move (.tmp 0),196, "l2_book_write.go:158",#[],none⟩,⟨some 30,.nilCheck (.tmp 29),0, "l2_book_write.go:158",#[⟨5,.data⟩],none⟩,⟨some 31,.fieldAddr 141 (.tmp 30) 1,0, "l2_book_write.go:158",#[⟨6,.data⟩],none⟩,⟨some 32,.fieldAddr 40 (.tmp 31) 2,0, "l2_book_write.go:158",#[⟨7,.data⟩],none⟩,⟨some 33,.load 9 (.tmp 32),9, "l2_book_write.go:158",#[⟨8,.data⟩],none⟩,⟨some 34,.move (.tmp 0),196, "l2_book_write.go:158",#[],none⟩,⟨some 35,.nilCheck (.tmp 34),0, "l2_book_write.go:158",#[⟨10,.data⟩],none⟩,⟨some 36,.fieldAddr 141 (.tmp 35) 0,0, "l2_book_write.go:158",#[⟨11,.data⟩],none⟩,⟨some 37,.load 88 (.tmp 36),88, "l2_book_write.go:158",#[⟨12,.data⟩],none⟩,⟨some 38,.nilCheck (.tmp 37),0, "l2_book_write.go:158",#[⟨13,.data⟩],none⟩,⟨some 39,.fieldAddr 35 (.tmp 38) 0,0, "l2_book_write.go:158",#[⟨14,.data⟩],none⟩,⟨some 40,.load 3 (.tmp 39),3, "l2_book_write.go:158",#[⟨15,.data⟩],none⟩,⟨some 41,.binOp .add 3 (.tmp 40) (.const (.int .i64 1)) 3,3, "l2_book_write.go:158",#[⟨16,.data⟩],none⟩,⟨some 42,.move (.tmp 0),196, "l2_book_write.go:158",#[],none⟩,⟨some 43,.nilCheck (.tmp 42),0, "l2_book_write.go:158",#[⟨18,.data⟩],none⟩,⟨some 44,.fieldAddr 141 (.tmp 43) 1,0, "l2_book_write.go:158",#[⟨19,.data⟩],none⟩,⟨some 45,.fieldAddr 40 (.tmp 44) 4,0, "l2_book_write.go:158",#[⟨20,.data⟩],none⟩,⟨some 46,.load 9 (.tmp 45),9, "l2_book_write.go:158",#[⟨21,.data⟩],none⟩,⟨some 47,.build 118 #[(0,.tmp 28),(1,.tmp 33),(3,.tmp 41),(4,.tmp 46)],118, "l2_book_write.go:158",#[⟨4,.data⟩,⟨9,.data⟩,⟨17,.data⟩,⟨22,.data⟩],none⟩,⟨some 4,.alloc 118,0, "l2_book_write.go:158",#[],none⟩,⟨none,.store 118 (.tmp 4) (.tmp 47),0, "l2_book_write.go:158",#[⟨24,.data⟩,⟨23,.data⟩,⟨0,.phase⟩,⟨1,.phase⟩,⟨2,.phase⟩,⟨3,.phase⟩,⟨4,.phase⟩,⟨5,.phase⟩,⟨6,.phase⟩,⟨7,.phase⟩,⟨8,.phase⟩,⟨9,.phase⟩,⟨10,.phase⟩,⟨11,.phase⟩,⟨12,.phase⟩,⟨13,.phase⟩,⟨14,.phase⟩,⟨15,.phase⟩,⟨16,.phase⟩,⟨17,.phase⟩,⟨18,.phase⟩,⟨19,.phase⟩,⟨20,.phase⟩,⟨21,.phase⟩,⟨22,.phase⟩,⟨23,.phase⟩,⟨24,.phase⟩],none⟩] true) Q ⟨#[.pointer (some ⟨D,0,none⟩),p1,p2,p3,t0 24,p5,p6,p7,p8,p9,p10,p11,p12,p13,p14,p15,p16,p17,p18,p19,p20,p21,p22,p23,t0 0,t0 1,t0 2,t0 3,t0 4,t0 5,t0 6,t0 7,t0 8,t0 9,t0 10,t0 11,t0 12,t0 13,t0 14,t0 15,t0 16,t0 17,t0 18,t0 19,t0 20,t0 21,t0 22,t0 23,p48,p49,p50,p51,p52,p53,p54,p55,p56,p57,p58,p59,p60,p61],[]⟩ W:=by
 refine regionJ Zf 25 (fun t:Nat→Value=>#[.pointer (some ⟨D,0,none⟩),p1,p2,p3,t 24,p5,p6,p7,p8,p9,p10,p11,p12,p13,p14,p15,p16,p17,p18,p19,p20,p21,p22,p23,t 0,t 1,t 2,t 3,t 4,t 5,t 6,t 7,t 8,t 9,t 10,t 11,t 12,t 13,t 14,t 15,t 16,t 17,t 18,t 19,t 20,t 21,t 22,t 23,p48,p49,p50,p51,p52,p53,p54,p55,p56,p57,p58,p59,p60,p61]) t0 (crReg5G D K y pl fo now W) (fun a X=>∃ (t:Nat→Value) (v3:Value),a=⟨#[.pointer (some ⟨D,0,none⟩),p1,p2,p3,t 24,p5,p6,p7,p8,p9,p10,p11,p12,p13,p14,p15,p16,p17,p18,p19,p20,p21,p22,p23,t 0,t 1,t 2,t 3,t 4,t 5,t 6,t 7,t 8,t 9,t 10,t 11,t 12,t 13,t 14,t 15,t 16,t 17,t 18,t 19,t 20,t 21,t 22,t 23,p48,p49,p50,p51,p52,p53,p54,p55,p56,p57,p58,p59,p60,p61],[]⟩∧(∃ b,t 24=.pointer (some ⟨b,0,none⟩)∧W.1.size≤b∧b<X.1.size∧RowF X b 7 (vec [.string y.kind,.string y.name,.int .i64 0,.int .i64 (now+1),.string y.text,.bool false,.slice none 0 0])∧Below W.1.size W X)) Zf Zf Zf ?_ rfl ?_ ?_ ?_
 ·intro i v X Y hi h hb
  rcases (show i=0∨i=1∨i=2∨i=3∨i=4∨i=5∨i=6∨i=7∨i=8∨i=9∨i=10∨i=11∨i=12∨i=13∨i=14∨i=15∨i=16∨i=17∨i=18∨i=19∨i=20∨i=21∨i=22∨i=23∨i=24 by omega) with rfl|rfl|rfl|rfl|rfl|rfl|rfl|rfl|rfl|rfl|rfl|rfl|rfl|rfl|rfl|rfl|rfl|rfl|rfl|rfl|rfl|rfl|rfl|rfl|rfl
  ·exact h
  ·exact h
  ·exact h
  ·exact h
  ·exact h
  ·exact h
  ·exact h
  ·exact h
  ·exact h
  ·exact h
  ·exact h
  ·exact h
  ·exact h
  ·exact h
  ·exact h
  ·exact h
  ·exact h
  ·exact h
  ·exact h
  ·exact h
  ·exact h
  ·exact h
  ·exact h
  ·exact h
  ·obtain ⟨b,e1,e2,e3,e4⟩:=h
   exact ⟨b,e1,e2,Nat.lt_of_lt_of_le e3 hb.size,e4.below hb e3⟩
 ·intro i hi t X KK hb hg hKK
  rcases (show i=0∨i=1∨i=2∨i=3∨i=4∨i=5∨i=6∨i=7∨i=8∨i=9∨i=10∨i=11∨i=12∨i=13∨i=14∨i=15∨i=16∨i=17∨i=18∨i=19∨i=20∨i=21∨i=22∨i=23∨i=24 by omega) with rfl|rfl|rfl|rfl|rfl|rfl|rfl|rfl|rfl|rfl|rfl|rfl|rfl|rfl|rfl|rfl|rfl|rfl|rfl|rfl|rfl|rfl|rfl|rfl|rfl
  ·exact apP221
  ·have e0:t 0=.pointer (some ⟨D,0,none⟩):=hg 0 (Wt rfl)
   have h:=hKK (.pointer (some ⟨D,0,none⟩)) X rfl Zbv
   refine wpOp_of rfl rfl ?_
   clear hKK hg
   go_simp
   simpa [updT,e0] using h
  ·have e1:t 1=.pointer (some ⟨D,0,none⟩):=hg 1 (Wt rfl)
   have h:=hKK (.pointer (some ⟨D,1,none⟩)) X rfl Zbv
   refine wpOp_of rfl rfl ?_
   clear hKK hg
   go_simp
   simpa [updT,e1] using h
  ·have e2:t 2=.pointer (some ⟨D,1,none⟩):=hg 2 (Wt rfl)
   have h:=hKK (.pointer (some ⟨D,2,none⟩)) X rfl Zbv
   refine wpOp_of rfl rfl ?_
   clear hKK hg
   go_simp
   simpa [updT,e2] using h
  ·have e3:t 3=.pointer (some ⟨D,2,none⟩):=hg 3 (Wt rfl)
   have l0:=(hb.cell (p:=⟨D,2,none⟩) hD).trans hd.c2
   have zl:=Nat.lt_of_lt_of_le hD hb.size
   have h:=hKK (.string y.kind) X rfl Zbv
   refine wpOp_of rfl rfl ?_
   clear hKK hg
   go_simp
   simpa [updT,e3] using h
  ·exact apP221
  ·have e5:t 5=.pointer (some ⟨D,0,none⟩):=hg 5 (Wt rfl)
   have h:=hKK (.pointer (some ⟨D,0,none⟩)) X rfl Zbv
   refine wpOp_of rfl rfl ?_
   clear hKK hg
   go_simp
   simpa [updT,e5] using h
  ·have e6:t 6=.pointer (some ⟨D,0,none⟩):=hg 6 (Wt rfl)
   have h:=hKK (.pointer (some ⟨D,1,none⟩)) X rfl Zbv
   refine wpOp_of rfl rfl ?_
   clear hKK hg
   go_simp
   simpa [updT,e6] using h
  ·have e7:t 7=.pointer (some ⟨D,1,none⟩):=hg 7 (Wt rfl)
   have h:=hKK (.pointer (some ⟨D,3,none⟩)) X rfl Zbv
   refine wpOp_of rfl rfl ?_
   clear hKK hg
   go_simp
   simpa [updT,e7] using h
  ·have e8:t 8=.pointer (some ⟨D,3,none⟩):=hg 8 (Wt rfl)
   have l0:=(hb.cell (p:=⟨D,3,none⟩) hD).trans hd.c3
   have zl:=Nat.lt_of_lt_of_le hD hb.size
   have h:=hKK (.string y.name) X rfl Zbv
   refine wpOp_of rfl rfl ?_
   clear hKK hg
   go_simp
   simpa [updT,e8] using h
  ·exact apP221
  ·have e10:t 10=.pointer (some ⟨D,0,none⟩):=hg 10 (Wt rfl)
   have h:=hKK (.pointer (some ⟨D,0,none⟩)) X rfl Zbv
   refine wpOp_of rfl rfl ?_
   clear hKK hg
   go_simp
   simpa [updT,e10] using h
  ·have e11:t 11=.pointer (some ⟨D,0,none⟩):=hg 11 (Wt rfl)
   have h:=hKK (.pointer (some ⟨D,0,none⟩)) X rfl Zbv
   refine wpOp_of rfl rfl ?_
   clear hKK hg
   go_simp
   simpa [updT,e11] using h
  ·have e12:t 12=.pointer (some ⟨D,0,none⟩):=hg 12 (Wt rfl)
   have l0:=(hb.cell (p:=⟨D,0,none⟩) hD).trans hd.c0
   have zl:=Nat.lt_of_lt_of_le hD hb.size
   have h:=hKK (.pointer (some ⟨K,0,none⟩)) X rfl Zbv
   refine wpOp_of rfl rfl ?_
   clear hKK hg
   go_simp
   simpa [updT,e12] using h
  ·have e13:t 13=.pointer (some ⟨K,0,none⟩):=hg 13 (Wt rfl)
   have h:=hKK (.pointer (some ⟨K,0,none⟩)) X rfl Zbv
   refine wpOp_of rfl rfl ?_
   clear hKK hg
   go_simp
   simpa [updT,e13] using h
  ·have e14:t 14=.pointer (some ⟨K,0,none⟩):=hg 14 (Wt rfl)
   have h:=hKK (.pointer (some ⟨K,0,none⟩)) X rfl Zbv
   refine wpOp_of rfl rfl ?_
   clear hKK hg
   go_simp
   simpa [updT,e14] using h
  ·have e15:t 15=.pointer (some ⟨K,0,none⟩):=hg 15 (Wt rfl)
   have l0:=(hb.cell (p:=⟨K,0,none⟩) hK).trans hn
   have zl:=Nat.lt_of_lt_of_le hK hb.size
   have h:=hKK (.int .i64 now) X rfl Zbv
   refine wpOp_of rfl rfl ?_
   clear hKK hg
   go_simp
   simpa [updT,e15] using h
  ·have e16:t 16=.int .i64 now:=hg 16 (Wt rfl)
   have hw:IntKind.i64.wrap (now+1)=now+1:=IntWalk.i64_in _ ⟨Za,Za⟩
   have h:=hKK (.int .i64 (now+1)) X rfl Zbv
   refine wpOp_of rfl rfl ?_
   clear hKK hg
   go_simp
   simpa [updT,e16,hw] using h
  ·exact apP221
  ·have e18:t 18=.pointer (some ⟨D,0,none⟩):=hg 18 (Wt rfl)
   have h:=hKK (.pointer (some ⟨D,0,none⟩)) X rfl Zbv
   refine wpOp_of rfl rfl ?_
   clear hKK hg
   go_simp
   simpa [updT,e18] using h
  ·have e19:t 19=.pointer (some ⟨D,0,none⟩):=hg 19 (Wt rfl)
   have h:=hKK (.pointer (some ⟨D,1,none⟩)) X rfl Zbv
   refine wpOp_of rfl rfl ?_
   clear hKK hg
   go_simp
   simpa [updT,e19] using h
  ·have e20:t 20=.pointer (some ⟨D,1,none⟩):=hg 20 (Wt rfl)
   have h:=hKK (.pointer (some ⟨D,5,none⟩)) X rfl Zbv
   refine wpOp_of rfl rfl ?_
   clear hKK hg
   go_simp
   simpa [updT,e20] using h
  ·have e21:t 21=.pointer (some ⟨D,5,none⟩):=hg 21 (Wt rfl)
   have l0:=(hb.cell (p:=⟨D,5,none⟩) hD).trans hd.c5
   have zl:=Nat.lt_of_lt_of_le hD hb.size
   have h:=hKK (.string y.text) X rfl Zbv
   refine wpOp_of rfl rfl ?_
   clear hKK hg
   go_simp
   simpa [updT,e21] using h
  ·have e4:t 4=.string y.kind:=hg 4 (Wt rfl)
   have e9:t 9=.string y.name:=hg 9 (Wt rfl)
   have e17:t 17=.int .i64 (now+1):=hg 17 (Wt rfl)
   have e22:t 22=.string y.text:=hg 22 (Wt rfl)
   have h:=hKK (.agg #[.string y.kind,.string y.name,.int .i64 0,.int .i64 (now+1),.string y.text,.bool false,.slice none 0 0]) X rfl Zbv
   refine wpOp_of rfl rfl ?_
   clear hKK hg
   go_simp
   simpa [updT,e4,e9,e17,e22] using h
  ·have h:=hKK (.pointer (some ⟨X.1.size,0,none⟩)) (X.alloc (.cells #[.string ⟨#[]⟩,.string ⟨#[]⟩,.int .i64 0,.int .i64 0,.string ⟨#[]⟩,.bool false,.slice none 0 0] 118)) ⟨X.1.size,rfl,hb.size,Zd,RowF.new (w:=X) (l:=[.string ⟨#[]⟩,.string ⟨#[]⟩,.int .i64 0,.int .i64 0,.string ⟨#[]⟩,.bool false,.slice none 0 0]) (t:=118) Zbv⟩ Zbu
   refine wpOp_of rfl rfl ?_
   clear hKK hg
   go_simp
   simpa [updT] using h
 ·intro t X KK hb hg hKK
  have e23:t 23=.agg #[.string y.kind,.string y.name,.int .i64 0,.int .i64 (now+1),.string y.text,.bool false,.slice none 0 0]:=hg 23 Za
  have hw:=hb.size
  obtain ⟨b,e24,z1,z2,hr⟩:∃ b,t 24=.pointer (some ⟨b,0,none⟩)∧W.1.size≤b∧b<X.1.size∧RowF X b 7 (vec [.string ⟨#[]⟩,.string ⟨#[]⟩,.int .i64 0,.int .i64 0,.string ⟨#[]⟩,.bool false,.slice none 0 0]):=hg 24 Za
  have q0:=hr.cell 0 Zb
  have q1:=hr.cell 1 Zb
  have q2:=hr.cell 2 Zb
  have q3:=hr.cell 3 Zb
  have q4:=hr.cell 4 Zb
  have q5:=hr.cell 5 Zb
  have q6:=hr.cell 6 Zb
  have qf:=hr.free
  simp only [vec,List.getD_cons_zero,List.getD_cons_succ] at q0 q1 q2 q3 q4 q5 q6
  have h:=hKK ⟨#[.pointer (some ⟨D,0,none⟩),p1,p2,p3,t 24,p5,p6,p7,p8,p9,p10,p11,p12,p13,p14,p15,p16,p17,p18,p19,p20,p21,p22,p23,t 0,t 1,t 2,t 3,t 4,t 5,t 6,t 7,t 8,t 9,t 10,t 11,t 12,t 13,t 14,t 15,t 16,t 17,t 18,t 19,t 20,t 21,t 22,t 23,p48,p49,p50,p51,p52,p53,p54,p55,p56,p57,p58,p59,p60,p61],[]⟩ _ ⟨t,.tuple #[],rfl,b,e24,z1,(by simpa using z2),row7 (v0:=.string y.kind) (v1:=.string y.name) (v2:=.int .i64 0) (v3:=.int .i64 (now+1)) (v4:=.string y.text) (v5:=.bool false) (v6:=.slice none 0 0) hr,set7 hb z1 _ _ _ _ _ _ _⟩
  refine wpOp_of rfl rfl ?_
  clear hKK hg hr
  rw [e24] at h
  go_simp
  simpa [updT,e23,e24] using h
 ·rintro a X ⟨t,v3,rfl,hp⟩
  exact hQ t v3 X hp
theorem new_cell {U:World} {c:Array Value} {t:TypeId} {k j:Nat} (h:k=U.1.size):(U.alloc (.cells c t)).cell? ⟨k,j,none⟩=c[j]?:=by subst h;exact World.cell?_alloc_new _ _ _ _
theorem new_free {U:World} {c:Array Value} {t:TypeId} {k j:Nat} (h:k=U.1.size):(U.alloc (.cells c t)).frozen? ⟨k,j,none⟩=false:=by subst h;simp
theorem own_slice {w:World} {base e z n:Nat} {v:Value} {xs:List Value} (h:w.ownsRow base e z v n xs):∃ ad cap,v=.slice ad n cap:=by
 rcases h.2 with ⟨h1,h2⟩|⟨g,cap,cur,e1,e2,e3,e4⟩
 ·subst h2
  exact ⟨none,0,h1⟩
 ·exact ⟨_,_,e1⟩
theorem create_ok0 (D K:Nat) (v:Wr) (pl:Int) (ad:Option Addr) (n cap:Nat) (now:Int) (w:World) (hD:D<w.1.size) (hK:K<w.1.size) (hd:DeskAt w D K v pl false) (hk:w.cell? ⟨K,2,none⟩=some (.slice ad n cap)) (hn:¬n=100) (hnow:w.cell? ⟨K,0,none⟩=some (.int .i64 now)) (h0:0≤now) (h1:now≤1000000) (hh:v.hold=⟨#[]⟩) :
  Calls Tryz.prog 97 #[.pointer (some ⟨D,0,none⟩)] w fun e w'=>e=.returned (.tuple #[.agg #[.string v.kind,.string v.name,.int .i64 0,.int .i64 (now+1),.string v.text,.bool false,.slice none 0 0],.nilIface])∧Below w.1.size w w':=by
 have hB:=below_alloc w (.cells #[.string ⟨#[]⟩,.string ⟨#[]⟩,.int .i64 0,.int .i64 0,.string ⟨#[]⟩,.bool false,.slice none 0 0] 118)
 have HD:=hid (hd.grow hB hD)
 have HD0:=hid hd
 have HN:=hid ((hB.cell (p:=⟨K,0,none⟩) hK).trans hnow)
 have HB:=hid hB
 have hn1:((n:Int)==100)=false:=Zc
 obtain ⟨c0,c1,c2,c3,c4,c5,c6,c7,c8⟩:=hd
 clear hB hnow hn c1 c2 c3 c4 c5 c6 c7
 go_enter Tryz.func97,Tryz.ntmps97
 go_wp2_with fail
 refine crReg5 _ _ _ _ _ _ _ _ _ _ _ _ _ _ _ _ _ _ _ _ _ _ _ _ _ _ _ _ _ _ _ _ _ _ _ _ (fun _=>undef) D K v pl false now _ Zc Zc (by exact HD.out) (by exact HN.out) h0 h1 _ ?_
 rintro t v3 X ⟨b,e24,z1,z2,hr,hbX⟩
 rw [e24]
 have z0:w.1.size<b:=by simp at z1;omega
 have BX1:=hid (HB.out.trans (hbX.mono Zd))
 obtain ⟨c0',c1',c2',c3',c4',c5',c6,c7',c8'⟩:=HD.out.grow hbX Zc
 have hDX:D<X.1.size:=Za
 have hRX:w.1.size<X.1.size:=Za
 have rz:=RowF.new (w:=w) (l:=[.string ⟨#[]⟩,.string ⟨#[]⟩,.int .i64 0,.int .i64 0,.string ⟨#[]⟩,.bool false,.slice none 0 0]) (t:=118) hbX
 have p0:=rz.cell 0 Zb
 have p1:=rz.cell 1 Zb
 have p2:=rz.cell 2 Zb
 have p3:=rz.cell 3 Zb
 have p4:=rz.cell 4 Zb
 have p5:=rz.cell 5 Zb
 have p6:=rz.cell 6 Zb
 have q0:=hr.cell 0 Zb
 have q1:=hr.cell 1 Zb
 have q2:=hr.cell 2 Zb
 have q3:=hr.cell 3 Zb
 have q4:=hr.cell 4 Zb
 have q5:=hr.cell 5 Zb
 have q6:=hr.cell 6 Zb
 have pf:=rz.free
 have qf:=hr.free
 simp only [vec,List.getD_cons_zero,List.getD_cons_succ] at p0 p1 p2 p3 p4 p5 p6
 simp only [vec,List.getD_cons_zero,List.getD_cons_succ] at q0 q1 q2 q3 q4 q5 q6
 clear hr rz hbX e24 HD HN HB c0' c1' c2' c3' c4' c5' c7' c8' c0 c8 hk z1
 rw [hh] at c6
 go_wp2
 refine bodyPost_ret (v:=.tuple #[.agg #[.string v.kind,.string v.name,.int .i64 0,.int .i64 (now+1),.string v.text,.bool false,.slice none 0 0],.nilIface]) (by simp [results,Tryz.results97,go_sem,p0,p1,p2,p3,p4,p5,p6]) rfl ?_
 exact ⟨rfl,by repeat (first|with_reducible exact BX1.out|with_reducible refine Below.setCell ?_ Zm _|with_reducible refine Below.alloc ?_ Zm _|with_reducible refine Below.drew ?_)⟩
theorem create_ok1 (D K:Nat) (v:Wr) (pl:Int) (ad:Option Addr) (n cap:Nat) (now:Int) (w:World) (hD:D<w.1.size) (hK:K<w.1.size) (hd:DeskAt w D K v pl false) (hk:w.cell? ⟨K,2,none⟩=some (.slice ad n cap)) (hn:¬n=100) (hnow:w.cell? ⟨K,0,none⟩=some (.int .i64 now)) (h0:0≤now) (h1:now≤1000000) (hh:¬v.hold=⟨#[]⟩) :
  Calls Tryz.prog 97 #[.pointer (some ⟨D,0,none⟩)] w fun e w'=>∃ b,e=.returned (.tuple #[.agg #[.string v.kind,.string v.name,.int .i64 0,.int .i64 (now+1),.string v.text,.bool false,.slice (some ⟨b,0,none⟩) 1 1],.nilIface])∧w.1.size≤b∧b<w'.1.size∧w'.cell? ⟨b,0,none⟩=some (.string v.hold)∧w'.frozen? ⟨b,0,none⟩=false∧Below w.1.size w w':=by
 have hB:=below_alloc w (.cells #[.string ⟨#[]⟩,.string ⟨#[]⟩,.int .i64 0,.int .i64 0,.string ⟨#[]⟩,.bool false,.slice none 0 0] 118)
 have HD:=hid (hd.grow hB hD)
 have HD0:=hid hd
 have HN:=hid ((hB.cell (p:=⟨K,0,none⟩) hK).trans hnow)
 have HB:=hid hB
 have hn1:((n:Int)==100)=false:=Zc
 obtain ⟨c0,c1,c2,c3,c4,c5,c6,c7,c8⟩:=hd
 clear hB hnow hn c1 c2 c3 c4 c5 c6 c7
 go_enter Tryz.func97,Tryz.ntmps97
 go_wp2_with fail
 refine crReg5 _ _ _ _ _ _ _ _ _ _ _ _ _ _ _ _ _ _ _ _ _ _ _ _ _ _ _ _ _ _ _ _ _ _ _ _ (fun _=>undef) D K v pl false now _ Zc Zc (by exact HD.out) (by exact HN.out) h0 h1 _ ?_
 rintro t v3 X ⟨b,e24,z1,z2,hr,hbX⟩
 rw [e24]
 have z0:w.1.size<b:=by simp at z1;omega
 have BX1:=hid (HB.out.trans (hbX.mono Zd))
 obtain ⟨c0',c1',c2',c3',c4',c5',c6,c7',c8'⟩:=HD.out.grow hbX Zc
 have hDX:D<X.1.size:=Za
 have hRX:w.1.size<X.1.size:=Za
 have rz:=RowF.new (w:=w) (l:=[.string ⟨#[]⟩,.string ⟨#[]⟩,.int .i64 0,.int .i64 0,.string ⟨#[]⟩,.bool false,.slice none 0 0]) (t:=118) hbX
 have p0:=rz.cell 0 Zb
 have p1:=rz.cell 1 Zb
 have p2:=rz.cell 2 Zb
 have p3:=rz.cell 3 Zb
 have p4:=rz.cell 4 Zb
 have p5:=rz.cell 5 Zb
 have p6:=rz.cell 6 Zb
 have q0:=hr.cell 0 Zb
 have q1:=hr.cell 1 Zb
 have q2:=hr.cell 2 Zb
 have q3:=hr.cell 3 Zb
 have q4:=hr.cell 4 Zb
 have q5:=hr.cell 5 Zb
 have q6:=hr.cell 6 Zb
 have pf:=rz.free
 have qf:=hr.free
 simp only [vec,List.getD_cons_zero,List.getD_cons_succ] at p0 p1 p2 p3 p4 p5 p6
 simp only [vec,List.getD_cons_zero,List.getD_cons_succ] at q0 q1 q2 q3 q4 q5 q6
 clear hr rz hbX e24 HD HN HB c0' c1' c2' c3' c4' c5' c7' c8' c0 c8 hk z1
 have hhe:v.hold.toList.isEmpty=false:=by simpa using em_list hh
 clear hh
 go_wp2
 refine bodyPost_ret (v:=.tuple #[.agg #[.string v.kind,.string v.name,.int .i64 0,.int .i64 (now+1),.string v.text,.bool false,.slice (some ⟨X.1.size,0,none⟩) 1 1],.nilIface]) (by simp [results,Tryz.results97,go_sem,p0,p1,p2,p3,p4,p5,p6,hRX]) rfl ?_
 refine ⟨X.1.size,rfl,Za,Zd,?_,?_,by repeat (first|with_reducible exact BX1.out|with_reducible refine Below.setCell ?_ Zm _|with_reducible refine Below.alloc ?_ Zm _|with_reducible refine Below.drew ?_)⟩
 ·exact new_cell Zd
 ·exact new_free Zd
theorem search_rk (n:Nat) (s:Nat→ByteArray) (ad:Option Addr) (cap:Nat) (a:ByteArray) (w:World) (lo hi:Nat) (hl:(n:Int)≤1099511627776) (hc:StrsIn w lo hi ad n s) (hs:HsAsc n s) :
  Calls Tryz.prog 155 #[.slice ad n cap,.string a] w fun e w'=>e=.returned (.tuple #[.int .i64 (rkS s a n:Nat),.bool (hasB n s a)])∧w'=w:=by
 refine (search_any n s ad cap a w lo hi hl hc (fun i j h1 h2 h3=>ltB_trans (hs i j h1 h2) h3)).mono ?_
 rintro e w' ⟨i,h1,h2,h3,rfl,rfl⟩
 have e1:rkS s a n=i:=rkS_eq h1 h2 (fun h=>h3 i Zbt h)
 refine ⟨?_,rfl⟩
 rw [has_rk hs,e1]
def hoReg4G (D _K R:Nat) (y:Wr) (_pl:Int) (_fo:Bool) (x:Ob) (A:Option Addr) (C:Nat) (_W:World) (i:Nat) (v:Value) (_X:World):Prop:=
 match i with
 | 0=>v=.pointer (some ⟨R,6,none⟩)
 | 1=>v=.slice A x.hn C
 | 2=>v=.pointer (some ⟨D,0,none⟩)
 | 3=>v=.pointer (some ⟨D,0,none⟩)
 | 4=>v=.pointer (some ⟨D,1,none⟩)
 | 5=>v=.pointer (some ⟨D,6,none⟩)
 | 6=>v=.string y.hold
 | 7=>v=.tuple #[.int .i64 (rkS x.hs y.hold x.hn:Nat),.bool (hasB x.hn x.hs y.hold)]
 | 8=>v=.tuple #[.int .i64 (rkS x.hs y.hold x.hn:Nat),.bool (hasB x.hn x.hs y.hold)]
 | 9=>v=.int .i64 (rkS x.hs y.hold x.hn:Nat)
 | 10=>v=.bool (hasB x.hn x.hs y.hold)
 | 11=>v=.int .i64 (rkS x.hs y.hold x.hn:Nat)
 | 12=>v=.bool (hasB x.hn x.hs y.hold)
 | _=>True
theorem apP222 {P:Prop} (h:P:=by
  have h:=hKK (.pointer (some ⟨R,6,none⟩)) X rfl Zbv
  refine wpOp_of rfl rfl ?_
  clear hKK hg
  go_simp
  simpa [updT] using h):P:=h
theorem apP223 {P:Prop} (h:P:=by
  have zl:=Nat.lt_of_lt_of_le hR hb.size
  have h:=hKK (.slice A x.hn C) X rfl Zbv
  refine wpOp_of rfl rfl ?_
  clear hKK hg
  go_simp
  simpa [updT,e0] using h):P:=h
theorem apP220 {P:Prop} (h:P:=by
  intro i hi t X KK hb hg hKK
  rcases (show i=0∨i=1∨i=2∨i=3∨i=4∨i=5∨i=6∨i=7∨i=8∨i=9∨i=10∨i=11∨i=12 by omega) with rfl|rfl|rfl|rfl|rfl|rfl|rfl|rfl|rfl|rfl|rfl|rfl|rfl
  ·exact apP222
  ·have e0:t 0=.pointer (some ⟨R,6,none⟩):=hg 0 (Wt rfl)
   have l0:=(hb.cell (p:=⟨R,6,none⟩) hR).trans hx
   exact apP223
  ·exact apP221
  ·have e2:t 2=.pointer (some ⟨D,0,none⟩):=hg 2 (Wt rfl)
   have h:=hKK (.pointer (some ⟨D,0,none⟩)) X rfl Zbv
   refine wpOp_of rfl rfl ?_
   clear hKK hg
   go_simp
   simpa [updT,e2] using h
  ·have e3:t 3=.pointer (some ⟨D,0,none⟩):=hg 3 (Wt rfl)
   have h:=hKK (.pointer (some ⟨D,1,none⟩)) X rfl Zbv
   refine wpOp_of rfl rfl ?_
   clear hKK hg
   go_simp
   simpa [updT,e3] using h
  ·have e4:t 4=.pointer (some ⟨D,1,none⟩):=hg 4 (Wt rfl)
   have h:=hKK (.pointer (some ⟨D,6,none⟩)) X rfl Zbv
   refine wpOp_of rfl rfl ?_
   clear hKK hg
   go_simp
   simpa [updT,e4] using h
  ·have e5:t 5=.pointer (some ⟨D,6,none⟩):=hg 5 (Wt rfl)
   have l0:=(hb.cell (p:=⟨D,6,none⟩) hD).trans hd.c6
   have zl:=Nat.lt_of_lt_of_le hD hb.size
   have h:=hKK (.string y.hold) X rfl Zbv
   refine wpOp_of rfl rfl ?_
   clear hKK hg
   go_simp
   simpa [updT,e5] using h
  ·have e1:t 1=.slice A x.hn C:=hg 1 (Wt rfl)
   have e6:t 6=.string y.hold:=hg 6 (Wt rfl)
   refine wpOp_of rfl rfl ?_
   have HK:=hid hKK
   clear hKK hg
   go_simp
   go_at_call 155
   refine (search_rk x.hn x.hs A C y.hold X 0 W.1.size hl (hc.below hb Zbt) hs).mono ?_
   rintro r Y ⟨rfl,rfl⟩
   have h:=HK.out (.tuple #[.int .i64 (rkS x.hs y.hold x.hn:Nat),.bool (hasB x.hn x.hs y.hold)]) Y rfl Zbv
   simpa [updT,e1,e6] using h
  ·have e7:t 7=.tuple #[.int .i64 (rkS x.hs y.hold x.hn:Nat),.bool (hasB x.hn x.hs y.hold)]:=hg 7 (Wt rfl)
   have h:=hKK (.tuple #[.int .i64 (rkS x.hs y.hold x.hn:Nat),.bool (hasB x.hn x.hs y.hold)]) X rfl Zbv
   refine wpOp_of rfl rfl ?_
   clear hKK hg
   go_simp
   simpa [updT,e7] using h
  ·have e8:t 8=.tuple #[.int .i64 (rkS x.hs y.hold x.hn:Nat),.bool (hasB x.hn x.hs y.hold)]:=hg 8 (Wt rfl)
   have h:=hKK (.int .i64 (rkS x.hs y.hold x.hn:Nat)) X rfl Zbv
   refine wpOp_of rfl rfl ?_
   clear hKK hg
   go_simp
   simpa [updT,e8] using h
  ·have e8:t 8=.tuple #[.int .i64 (rkS x.hs y.hold x.hn:Nat),.bool (hasB x.hn x.hs y.hold)]:=hg 8 (Wt rfl)
   have h:=hKK (.bool (hasB x.hn x.hs y.hold)) X rfl Zbv
   refine wpOp_of rfl rfl ?_
   clear hKK hg
   go_simp
   simpa [updT,e8] using h
  ·have e9:t 9=.int .i64 (rkS x.hs y.hold x.hn:Nat):=hg 9 (Wt rfl)
   have h:=hKK (.int .i64 (rkS x.hs y.hold x.hn:Nat)) X rfl Zbv
   refine wpOp_of rfl rfl ?_
   clear hKK hg
   go_simp
   simpa [updT,e9] using h
  ·have e10:t 10=.bool (hasB x.hn x.hs y.hold):=hg 10 (Wt rfl)
   have h:=hKK (.bool (hasB x.hn x.hs y.hold)) X rfl Zbv
   refine wpOp_of rfl rfl ?_
   clear hKK hg
   go_simp
   simpa [updT,e10] using h):P:=h
theorem hoReg4 (p1 p2 p3 p5 p8 p9 p10 p11 p12 p13 p14 p15 p16 p28 p29 p30 p31 p32 p33 p34 p35 p36 p37 p38 p39 p40 p41 p42 p43 p44 p45 p46 p47 p48 p49:Value) (t0:Nat→Value) (D K R:Nat) (y:Wr) (pl:Int) (fo:Bool) (x:Ob) (A:Option Addr) (C:Nat) (W:World) (hD:D<W.1.size) (hR:R<W.1.size) (hd:DeskAt W D K y pl fo) (hx:W.cell? ⟨R,6,none⟩=some (.slice A x.hn C)) (hl:(x.hn:Int)≤1099511627776) (hc:StrsIn W 0 W.1.size A x.hn x.hs) (hs:HsAsc x.hn x.hs) (Q:Exit→Act→World→Prop) (hQ:∀ (t:Nat→Value) X,Below W.1.size W X→Q .normal ⟨#[.pointer (some ⟨D,0,none⟩),p1,p2,p3,.pointer (some ⟨R,0,none⟩),p5,.int .i64 (rkS x.hs y.hold x.hn:Nat),.bool (hasB x.hn x.hs y.hold),p8,p9,p10,p11,p12,p13,p14,p15,p16,t 8,t 0,t 1,t 2,t 3,t 4,t 5,t 6,t 7,t 9,t 10,p28,p29,p30,p31,p32,p33,p34,p35,p36,p37,p38,p39,p40,p41,p42,p43,p44,p45,p46,p47,p48,p49],[]⟩ X) :
  Code.wp Tryz.prog (Code.region 4 #[⟨some 18,.fieldAddr 118 (.tmp 4) 6,0, "l2_book_write.go:188",#[],none⟩,⟨some 19,.load 108 (.tmp 18),108, "l2_book_write.go:188",#[⟨0,.data⟩],none⟩,⟨some 20,.move (.tmp 0),196, "l2_book_write.go:188",#[],none⟩,⟨some 21,.nilCheck (.tmp 20),0, "l2_book_write.go:188",#[⟨2,.data⟩],none⟩,⟨some 22,.fieldAddr 141 (.tmp 21) 1,0, "l2_book_write.go:188",#[⟨3,.data⟩],none⟩,⟨some 23,.fieldAddr 40 (.tmp 22) 5,0, "l2_book_write.go:188",#[⟨4,.data⟩],none⟩,⟨some 24,.load 9 (.tmp 23),9, "l2_book_write.go:188",#[⟨5,.data⟩],none⟩,⟨some 25,.call ⟨.value (.func 155),#[.tmp 19,.tmp 24],#[108,9]⟩,136, "l2_book_write.go:188",#[⟨1,.data⟩,⟨6,.data⟩],none⟩,⟨some 17,.move (.tmp 25),136, "l2_book_write.go:188",#[⟨7,.data⟩],none⟩,⟨some 26,.extract (.tmp 17) 0,3, "l2_book_write.go:188",#[⟨8,.data⟩],none⟩,⟨some 27,.extract (.tmp 17) 1,4, "l2_book_write.go:188",#[⟨8,.data⟩,{ on:=11,ground:=Ground.gcOnly Departure.lateStores }],none⟩,⟨some 6,.assign (.tmp 26),3, "l2_book_write.go:188",#[⟨9,.data⟩,⟨7,.chain⟩,⟨0,.phase⟩,⟨1,.phase⟩,⟨2,.phase⟩,⟨3,.phase⟩,⟨4,.phase⟩,⟨5,.phase⟩,⟨6,.phase⟩,⟨7,.phase⟩,⟨8,.phase⟩,⟨9,.phase⟩,{ on:=10,ground:=Ground.textOnly Departure.lateStores }],none⟩,⟨some 7,.assign (.tmp 27),4, "l2_book_write.go:188",#[⟨10,.data⟩,⟨11,.chain⟩,⟨0,.phase⟩,⟨1,.phase⟩,⟨2,.phase⟩,⟨3,.phase⟩,⟨4,.phase⟩,⟨5,.phase⟩,⟨6,.phase⟩,⟨7,.phase⟩,⟨8,.phase⟩,⟨9,.phase⟩,⟨10,.phase⟩,⟨11,.phase⟩],none⟩] true) Q ⟨#[.pointer (some ⟨D,0,none⟩),p1,p2,p3,.pointer (some ⟨R,0,none⟩),p5,t0 11,t0 12,p8,p9,p10,p11,p12,p13,p14,p15,p16,t0 8,t0 0,t0 1,t0 2,t0 3,t0 4,t0 5,t0 6,t0 7,t0 9,t0 10,p28,p29,p30,p31,p32,p33,p34,p35,p36,p37,p38,p39,p40,p41,p42,p43,p44,p45,p46,p47,p48,p49],[]⟩ W:=by
 refine regionV Zf 13 (fun t:Nat→Value=>#[.pointer (some ⟨D,0,none⟩),p1,p2,p3,.pointer (some ⟨R,0,none⟩),p5,t 11,t 12,p8,p9,p10,p11,p12,p13,p14,p15,p16,t 8,t 0,t 1,t 2,t 3,t 4,t 5,t 6,t 7,t 9,t 10,p28,p29,p30,p31,p32,p33,p34,p35,p36,p37,p38,p39,p40,p41,p42,p43,p44,p45,p46,p47,p48,p49]) t0 (hoReg4G D K R y pl fo x A C W) Zf Zf ?_ rfl ?_ ?_
 ·exact fun _ _ _ _ _ h _=>h
 ·exact apP220
 ·intro t X hb hG
  have f11:t 11=.int .i64 (rkS x.hs y.hold x.hn:Nat):=hG 11 Za
  have f12:t 12=.bool (hasB x.hn x.hs y.hold):=hG 12 Za
  show Q .normal ⟨#[.pointer (some ⟨D,0,none⟩),p1,p2,p3,.pointer (some ⟨R,0,none⟩),p5,t 11,t 12,p8,p9,p10,p11,p12,p13,p14,p15,p16,t 8,t 0,t 1,t 2,t 3,t 4,t 5,t 6,t 7,t 9,t 10,p28,p29,p30,p31,p32,p33,p34,p35,p36,p37,p38,p39,p40,p41,p42,p43,p44,p45,p46,p47,p48,p49],[]⟩ X
  rw [f11,f12]
  exact hQ t X hb
def leReg4G (D _K R:Nat) (y:Wr) (_pl:Int) (_fo:Bool) (x:Ob) (A:Option Addr) (C:Nat) (_W:World) (i:Nat) (v:Value) (_X:World):Prop:=
 match i with
 | 0=>v=.pointer (some ⟨R,6,none⟩)
 | 1=>v=.slice A x.hn C
 | 2=>v=.pointer (some ⟨D,0,none⟩)
 | 3=>v=.pointer (some ⟨D,0,none⟩)
 | 4=>v=.pointer (some ⟨D,1,none⟩)
 | 5=>v=.pointer (some ⟨D,6,none⟩)
 | 6=>v=.string y.hold
 | 7=>v=.tuple #[.int .i64 (rkS x.hs y.hold x.hn:Nat),.bool (hasB x.hn x.hs y.hold)]
 | 8=>v=.tuple #[.int .i64 (rkS x.hs y.hold x.hn:Nat),.bool (hasB x.hn x.hs y.hold)]
 | 9=>v=.int .i64 (rkS x.hs y.hold x.hn:Nat)
 | 10=>v=.bool (hasB x.hn x.hs y.hold)
 | 11=>v=.int .i64 (rkS x.hs y.hold x.hn:Nat)
 | 12=>v=.bool (hasB x.hn x.hs y.hold)
 | _=>True
theorem leReg4 (p1 p2 p3 p5 p8 p9 p10 p11 p12 p13 p14 p15 p16 p28 p29 p30 p31 p32 p33 p34 p35 p36 p37 p38:Value) (t0:Nat→Value) (D K R:Nat) (y:Wr) (pl:Int) (fo:Bool) (x:Ob) (A:Option Addr) (C:Nat) (W:World) (hD:D<W.1.size) (hR:R<W.1.size) (hd:DeskAt W D K y pl fo) (hx:W.cell? ⟨R,6,none⟩=some (.slice A x.hn C)) (hl:(x.hn:Int)≤1099511627776) (hc:StrsIn W 0 W.1.size A x.hn x.hs) (hs:HsAsc x.hn x.hs) (Q:Exit→Act→World→Prop) (hQ:∀ (t:Nat→Value) X,Below W.1.size W X→Q .normal ⟨#[.pointer (some ⟨D,0,none⟩),p1,p2,p3,.pointer (some ⟨R,0,none⟩),p5,.int .i64 (rkS x.hs y.hold x.hn:Nat),.bool (hasB x.hn x.hs y.hold),p8,p9,p10,p11,p12,p13,p14,p15,p16,t 8,t 0,t 1,t 2,t 3,t 4,t 5,t 6,t 7,t 9,t 10,p28,p29,p30,p31,p32,p33,p34,p35,p36,p37,p38],[]⟩ X) :
  Code.wp Tryz.prog (Code.region 4 #[⟨some 18,.fieldAddr 118 (.tmp 4) 6,0, "l2_book_write.go:204",#[],none⟩,⟨some 19,.load 108 (.tmp 18),108, "l2_book_write.go:204",#[⟨0,.data⟩],none⟩,⟨some 20,.move (.tmp 0),196, "l2_book_write.go:204",#[],none⟩,⟨some 21,.nilCheck (.tmp 20),0, "l2_book_write.go:204",#[⟨2,.data⟩],none⟩,⟨some 22,.fieldAddr 141 (.tmp 21) 1,0, "l2_book_write.go:204",#[⟨3,.data⟩],none⟩,⟨some 23,.fieldAddr 40 (.tmp 22) 5,0, "l2_book_write.go:204",#[⟨4,.data⟩],none⟩,⟨some 24,.load 9 (.tmp 23),9, "l2_book_write.go:204",#[⟨5,.data⟩],none⟩,⟨some 25,.call ⟨.value (.func 155),#[.tmp 19,.tmp 24],#[108,9]⟩,136, "l2_book_write.go:204",#[⟨1,.data⟩,⟨6,.data⟩],none⟩,⟨some 17,.move (.tmp 25),136, "l2_book_write.go:204",#[⟨7,.data⟩],none⟩,⟨some 26,.extract (.tmp 17) 0,3, "l2_book_write.go:204",#[⟨8,.data⟩],none⟩,⟨some 27,.extract (.tmp 17) 1,4, "l2_book_write.go:204",#[⟨8,.data⟩,{ on:=11,ground:=Ground.gcOnly Departure.lateStores }],none⟩,⟨some 6,.assign (.tmp 26),3, "l2_book_write.go:204",#[⟨9,.data⟩,⟨7,.chain⟩,⟨0,.phase⟩,⟨1,.phase⟩,⟨2,.phase⟩,⟨3,.phase⟩,⟨4,.phase⟩,⟨5,.phase⟩,⟨6,.phase⟩,⟨7,.phase⟩,⟨8,.phase⟩,⟨9,.phase⟩,{ on:=10,ground:=Ground.textOnly Departure.lateStores }],none⟩,⟨some 7,.assign (.tmp 27),4, "l2_book_write.go:204",#[⟨10,.data⟩,⟨11,.chain⟩,⟨0,.phase⟩,⟨1,.phase⟩,⟨2,.phase⟩,⟨3,.phase⟩,⟨4,.phase⟩,⟨5,.phase⟩,⟨6,.phase⟩,⟨7,.phase⟩,⟨8,.phase⟩,⟨9,.phase⟩,⟨10,.phase⟩,⟨11,.phase⟩],none⟩] true) Q ⟨#[.pointer (some ⟨D,0,none⟩),p1,p2,p3,.pointer (some ⟨R,0,none⟩),p5,t0 11,t0 12,p8,p9,p10,p11,p12,p13,p14,p15,p16,t0 8,t0 0,t0 1,t0 2,t0 3,t0 4,t0 5,t0 6,t0 7,t0 9,t0 10,p28,p29,p30,p31,p32,p33,p34,p35,p36,p37,p38],[]⟩ W:=by
 refine regionV Zf 13 (fun t:Nat→Value=>#[.pointer (some ⟨D,0,none⟩),p1,p2,p3,.pointer (some ⟨R,0,none⟩),p5,t 11,t 12,p8,p9,p10,p11,p12,p13,p14,p15,p16,t 8,t 0,t 1,t 2,t 3,t 4,t 5,t 6,t 7,t 9,t 10,p28,p29,p30,p31,p32,p33,p34,p35,p36,p37,p38]) t0 (leReg4G D K R y pl fo x A C W) Zf Zf ?_ rfl ?_ ?_
 ·exact fun _ _ _ _ _ h _=>h
 ·exact apP220
 ·intro t X hb hG
  have f11:t 11=.int .i64 (rkS x.hs y.hold x.hn:Nat):=hG 11 Za
  have f12:t 12=.bool (hasB x.hn x.hs y.hold):=hG 12 Za
  show Q .normal ⟨#[.pointer (some ⟨D,0,none⟩),p1,p2,p3,.pointer (some ⟨R,0,none⟩),p5,t 11,t 12,p8,p9,p10,p11,p12,p13,p14,p15,p16,t 8,t 0,t 1,t 2,t 3,t 4,t 5,t 6,t 7,t 9,t 10,p28,p29,p30,p31,p32,p33,p34,p35,p36,p37,p38],[]⟩ X
  rw [f11,f12]
  exact hQ t X hb
theorem set7_6 (v0 v1 v2 v3 v4 v5 v6 v:Value):∀ j,j<7→vec [v0,v1,v2,v3,v4,v5,v] j=setF (vec [v0,v1,v2,v3,v4,v5,v6]) 6 v j:=fun j hj=>by
 rcases (show j=0∨j=1∨j=2∨j=3∨j=4∨j=5∨j=6 by omega) with rfl|rfl|rfl|rfl|rfl|rfl|rfl<;>rfl
def hoReg9G (D _K R:Nat) (y:Wr) (_pl:Int) (_fo:Bool) (x:Ob) (A:Option Addr) (_b _off C k:Nat) (W:World) (i:Nat) (v:Value) (X:World):Prop:=
 match i with
 | 0=>v=.pointer (some ⟨R,6,none⟩)
 | 1=>v=.slice A x.hn C
 | 2=>v=.int .i64 (k:Nat)
 | 3=>v=.pointer (some ⟨D,0,none⟩)
 | 4=>v=.pointer (some ⟨D,0,none⟩)
 | 5=>v=.pointer (some ⟨D,1,none⟩)
 | 6=>v=.pointer (some ⟨D,6,none⟩)
 | 7=>v=.string y.hold
 | 8=>X.ownsRow W.1.size 9 1 v (x.hn+1) ((strCells x.hn x.hs).take (k*1) ++ [.string y.hold] ++ (strCells x.hn x.hs).drop (k*1))
 | 9=>v=.pointer (some ⟨R,6,none⟩)
 | _=>True
theorem hoReg9 (p1 p2 p3 p5 p7 p8 p9 p10 p11 p12 p13 p14 p15 p16 p17 p18 p19 p20 p21 p22 p23 p24 p25 p26 p27 p28 p29 p30 p31 p32 p33 p34 p35 p36 p37 p38 p49:Value) (t0:Nat→Value) (D K R:Nat) (y:Wr) (pl:Int) (fo:Bool) (x:Ob) (A:Option Addr) (b off C k:Nat) (W:World) (hD:D<W.1.size) (hR:R<W.1.size) (hd:DeskAt W D K y pl fo) (hx:RowF W R 7 (vec [.string x.kind,.string x.name,.int .i64 x.ver,.int .i64 x.born,.string x.text,.bool x.ending,.slice A x.hn C])) (hl:(x.hn:Int)≤1099511627775) (hk:k≤x.hn) (hc:RowC W 1 A b off x.hn C (strCells x.hn x.hs)) (Q:Exit→Act→World→Prop) (hQ:∀ (t:Nat→Value) (_v3:Value) X,(∃ v4,X.ownsRow W.1.size 9 1 v4 (x.hn+1) ((strCells x.hn x.hs).take (k*1) ++ [.string y.hold] ++ (strCells x.hn x.hs).drop (k*1))∧RowF X R 7 (vec [.string x.kind,.string x.name,.int .i64 x.ver,.int .i64 x.born,.string x.text,.bool x.ending,v4])∧FrP (fun q=>q=R) W X)→Q .normal ⟨#[.pointer (some ⟨D,0,none⟩),p1,p2,p3,.pointer (some ⟨R,0,none⟩),p5,.int .i64 (k:Nat),p7,p8,p9,p10,p11,p12,p13,p14,p15,p16,p17,p18,p19,p20,p21,p22,p23,p24,p25,p26,p27,p28,p29,p30,p31,p32,p33,p34,p35,p36,p37,p38,t 0,t 1,t 2,t 3,t 4,t 5,t 6,t 7,t 8,t 9,p49],[]⟩ X) :
  Code.wp Tryz.prog (Code.region 9 #[⟨some 39,.fieldAddr 118 (.tmp 4) 6,0, "l2_book_write.go:195",#[],none⟩,⟨some 40,.load 108 (.tmp 39),108, "l2_book_write.go:195",#[⟨0,.data⟩],none⟩,⟨some 41,.move (.tmp 6),3, "l2_book_write.go:195",#[],none⟩,⟨some 42,.move (.tmp 0),196, "l2_book_write.go:195",#[],none⟩,⟨some 43,.nilCheck (.tmp 42),0, "l2_book_write.go:195",#[⟨3,.data⟩],none⟩,⟨some 44,.fieldAddr 141 (.tmp 43) 1,0, "l2_book_write.go:195",#[⟨4,.data⟩],none⟩,⟨some 45,.fieldAddr 40 (.tmp 44) 5,0, "l2_book_write.go:195",#[⟨5,.data⟩],none⟩,⟨some 46,.load 9 (.tmp 45),9, "l2_book_write.go:195",#[⟨6,.data⟩],none⟩,⟨some 47,.call ⟨.value (.func 156),#[.tmp 40,.tmp 41,.tmp 46],#[108,3,9]⟩,108, "l2_book_write.go:195",#[⟨1,.data⟩,⟨2,.data⟩,⟨7,.data⟩],none⟩,⟨some 48,.fieldAddr 118 (.tmp 4) 6,0, "l2_book_write.go:195",#[⟨0,.phase⟩,⟨1,.phase⟩,⟨2,.phase⟩,⟨3,.phase⟩,⟨4,.phase⟩,⟨5,.phase⟩,⟨6,.phase⟩,⟨7,.phase⟩,⟨8,.phase⟩],none⟩,⟨none,.store 108 (.tmp 48) (.tmp 47),0, "l2_book_write.go:195",#[⟨9,.data⟩,⟨8,.data⟩,⟨8,.chain⟩,⟨0,.phase⟩,⟨1,.phase⟩,⟨2,.phase⟩,⟨3,.phase⟩,⟨4,.phase⟩,⟨5,.phase⟩,⟨6,.phase⟩,⟨7,.phase⟩,⟨8,.phase⟩],none⟩] true) Q ⟨#[.pointer (some ⟨D,0,none⟩),p1,p2,p3,.pointer (some ⟨R,0,none⟩),p5,.int .i64 (k:Nat),p7,p8,p9,p10,p11,p12,p13,p14,p15,p16,p17,p18,p19,p20,p21,p22,p23,p24,p25,p26,p27,p28,p29,p30,p31,p32,p33,p34,p35,p36,p37,p38,t0 0,t0 1,t0 2,t0 3,t0 4,t0 5,t0 6,t0 7,t0 8,t0 9,p49],[]⟩ W:=by
 refine regionJ Zf 10 (fun t:Nat→Value=>#[.pointer (some ⟨D,0,none⟩),p1,p2,p3,.pointer (some ⟨R,0,none⟩),p5,.int .i64 (k:Nat),p7,p8,p9,p10,p11,p12,p13,p14,p15,p16,p17,p18,p19,p20,p21,p22,p23,p24,p25,p26,p27,p28,p29,p30,p31,p32,p33,p34,p35,p36,p37,p38,t 0,t 1,t 2,t 3,t 4,t 5,t 6,t 7,t 8,t 9,p49]) t0 (hoReg9G D K R y pl fo x A b off C k W) (fun a X=>∃ (t:Nat→Value) (v3:Value),a=⟨#[.pointer (some ⟨D,0,none⟩),p1,p2,p3,.pointer (some ⟨R,0,none⟩),p5,.int .i64 (k:Nat),p7,p8,p9,p10,p11,p12,p13,p14,p15,p16,p17,p18,p19,p20,p21,p22,p23,p24,p25,p26,p27,p28,p29,p30,p31,p32,p33,p34,p35,p36,p37,p38,t 0,t 1,t 2,t 3,t 4,t 5,t 6,t 7,t 8,t 9,p49],[]⟩∧(∃ v4,X.ownsRow W.1.size 9 1 v4 (x.hn+1) ((strCells x.hn x.hs).take (k*1) ++ [.string y.hold] ++ (strCells x.hn x.hs).drop (k*1))∧RowF X R 7 (vec [.string x.kind,.string x.name,.int .i64 x.ver,.int .i64 x.born,.string x.text,.bool x.ending,v4])∧FrP (fun q=>q=R) W X)) Zf Zf Zf ?_ rfl ?_ ?_ ?_
 ·intro i v X Y hi h hb
  rcases (show i=0∨i=1∨i=2∨i=3∨i=4∨i=5∨i=6∨i=7∨i=8∨i=9 by omega) with rfl|rfl|rfl|rfl|rfl|rfl|rfl|rfl|rfl|rfl
  ·exact h
  ·exact h
  ·exact h
  ·exact h
  ·exact h
  ·exact h
  ·exact h
  ·exact h
  ·exact own_grow h hb
  ·exact h
 ·intro i hi t X KK hb hg hKK
  rcases (show i=0∨i=1∨i=2∨i=3∨i=4∨i=5∨i=6∨i=7∨i=8∨i=9 by omega) with rfl|rfl|rfl|rfl|rfl|rfl|rfl|rfl|rfl|rfl
  ·exact apP222
  ·have e0:t 0=.pointer (some ⟨R,6,none⟩):=hg 0 (Wt rfl)
   have l0:=(hb.cell (p:=⟨R,6,none⟩) hR).trans (show W.cell? ⟨R,6,none⟩=some (.slice A x.hn C) from hx.cell 6 Zb)
   exact apP223
  ·have h:=hKK (.int .i64 (k:Nat)) X rfl Zbv
   refine wpOp_of rfl rfl ?_
   clear hKK hg
   go_simp
   simpa [updT] using h
  ·exact apP221
  ·have e3:t 3=.pointer (some ⟨D,0,none⟩):=hg 3 (Wt rfl)
   have h:=hKK (.pointer (some ⟨D,0,none⟩)) X rfl Zbv
   refine wpOp_of rfl rfl ?_
   clear hKK hg
   go_simp
   simpa [updT,e3] using h
  ·have e4:t 4=.pointer (some ⟨D,0,none⟩):=hg 4 (Wt rfl)
   have h:=hKK (.pointer (some ⟨D,1,none⟩)) X rfl Zbv
   refine wpOp_of rfl rfl ?_
   clear hKK hg
   go_simp
   simpa [updT,e4] using h
  ·have e5:t 5=.pointer (some ⟨D,1,none⟩):=hg 5 (Wt rfl)
   have h:=hKK (.pointer (some ⟨D,6,none⟩)) X rfl Zbv
   refine wpOp_of rfl rfl ?_
   clear hKK hg
   go_simp
   simpa [updT,e5] using h
  ·have e6:t 6=.pointer (some ⟨D,6,none⟩):=hg 6 (Wt rfl)
   have l0:=(hb.cell (p:=⟨D,6,none⟩) hD).trans hd.c6
   have zl:=Nat.lt_of_lt_of_le hD hb.size
   have h:=hKK (.string y.hold) X rfl Zbv
   refine wpOp_of rfl rfl ?_
   clear hKK hg
   go_simp
   simpa [updT,e6] using h
  ·have e1:t 1=.slice A x.hn C:=hg 1 (Wt rfl)
   have e2:t 2=.int .i64 (k:Nat):=hg 2 (Wt rfl)
   have e7:t 7=.string y.hold:=hg 7 (Wt rfl)
   refine wpOp_of rfl rfl ?_
   have HK:=hid hKK
   have HST:=hid (hc.grow hb)
   clear hKK hg
   go_simp
   go_at_call 156
   refine (insS_any A b off x.hn C k (strCells x.hn x.hs) y.hold X HST.out hk hl).mono ?_
   rintro r Y ⟨v,rfl,hown,hbY⟩
   have h:=HK.out v Y (own_base hown hb.size) hbY
   simpa [updT,e1,e2,e7] using h
  ·exact apP222
 ·intro t X KK hb hg hKK
  have e9:t 9=.pointer (some ⟨R,6,none⟩):=hg 9 Za
  have hown:X.ownsRow W.1.size 9 1 (t 8) (x.hn+1) ((strCells x.hn x.hs).take (k*1) ++ [.string y.hold] ++ (strCells x.hn x.hs).drop (k*1)):=hg 8 Za
  obtain ⟨a8,k8,e8⟩:=own_slice hown
  rw [e8] at hown
  have hr:=hx.below hb hR
  have l6:=hr.cell 6 Zb
  have lf:=hr.free
  simp only [vec,List.getD_cons_zero,List.getD_cons_succ] at l6
  have zl:R<X.1.size:=Nat.lt_of_lt_of_le hR hb.size
  have h:=hKK ⟨#[.pointer (some ⟨D,0,none⟩),p1,p2,p3,.pointer (some ⟨R,0,none⟩),p5,.int .i64 (k:Nat),p7,p8,p9,p10,p11,p12,p13,p14,p15,p16,p17,p18,p19,p20,p21,p22,p23,p24,p25,p26,p27,p28,p29,p30,p31,p32,p33,p34,p35,p36,p37,p38,t 0,t 1,t 2,t 3,t 4,t 5,t 6,t 7,t 8,t 9,p49],[]⟩ (X.setCell ⟨R,6,none⟩ (.slice a8 (x.hn+1) k8)) ⟨t,.tuple #[],rfl,.slice a8 (x.hn+1) k8,ownsRow_fr hown (FrP.setCell (P:=fun q=>q=R) (FrP.refl _ _) rfl _) (fun g hg' e=>by have:=(hown.lt g hg').1;omega),hr.vset Za (set7_6 _ _ _ _ _ _ _ _),(FrP.of_below hb).trans (FrP.setCell (P:=fun q=>q=R) (FrP.refl _ _) rfl _)⟩
  refine wpOp_of rfl rfl ?_
  clear hKK hg hr
  go_simp
  simpa [updT,e9,e8] using h
 ·rintro a X ⟨t,v3,rfl,hp⟩
  exact hQ t v3 X hp
theorem hold_has (D K:Nat) (v:Wr) (pl:Int) (fo:Bool) (x:Ob) (A:Option Addr) (b off C:Nat) (w:World) (hD:D<w.1.size) (hd:DeskAt w D K v pl fo) (hs:∀ o:Obj,Calls Tryz.prog 154 #[.pointer (some ⟨D,0,none⟩)] (w.alloc o) fun e w'=>e=.returned (.tuple #[.agg #[.string x.kind,.string x.name,.int .i64 x.ver,.int .i64 x.born,.string x.text,.bool x.ending,.slice A x.hn C],.nilIface])∧Below (w.alloc o).1.size (w.alloc o) w') (hl:(x.hn:Int)≤1000) (hc:StrsIn w 0 w.1.size A x.hn x.hs) (ha:HsAsc x.hn x.hs) (hrc:RowC w 1 A b off x.hn C (strCells x.hn x.hs)) (hh:hasB x.hn x.hs v.hold=true) :
  Calls Tryz.prog 100 #[.pointer (some ⟨D,0,none⟩)] w fun e w'=>e=.returned (.tuple #[.agg #[.string ⟨#[]⟩,.string ⟨#[]⟩,.int .i64 0,.int .i64 0,.string ⟨#[]⟩,.bool false,.slice none 0 0],.iface 90 (.agg #[.int .i64 6,.int .i64 0])])∧Below w.1.size w w':=by
 have HS:=hid hs
 have HD:=hid hd
 have HC:=hid hc
 have HRC:=hid hrc
 clear hs hd hc hrc
 go_enter Tryz.func100,Tryz.ntmps100
 go_wp2_with fail
 refine (HS.out _).mono ?_
 rintro e w1 ⟨rfl,hb1⟩
 have z1:=(two_alloc hb1).2
 have b1:=(two_alloc hb1).1
 have r1:=hid (RowF.new (w:=w) (l:=[.string ⟨#[]⟩,.string ⟨#[]⟩,.int .i64 0,.int .i64 0,.string ⟨#[]⟩,.bool false,.slice none 0 0]) (t:=118) hb1)
 clear hb1
 go_wp2_with fail
 have B2:=b1.trans ((below_alloc w1 (.cells #[.string x.kind,.string x.name,.int .i64 x.ver,.int .i64 x.born,.string x.text,.bool x.ending,.slice A x.hn C] 118)).mono b1.size)
 refine hoReg4 _ _ _ _ _ _ _ _ _ _ _ _ _ _ _ _ _ _ _ _ _ _ _ _ _ _ _ _ _ _ _ _ _ _ _ (fun _=>undef) D K w1.1.size v pl fo x A C _ Zc Zd (HD.out.grow B2 hD) (new_cell rfl) Za ((HC.out.below B2 Zbt).mono Zbt B2.size) ha _ ?_
 intro t X hbX
 have r2:=hid (RowF.new (w:=w1) (l:=[.string x.kind,.string x.name,.int .i64 x.ver,.int .i64 x.born,.string x.text,.bool x.ending,.slice A x.hn C]) (t:=118) hbX)
 have B3:=hid (B2.trans (hbX.mono B2.size))
 have zX:w1.1.size<X.1.size:=by have:=hbX.size;simp at this;omega
 have r3:=hid (RowF.below (B:=w1.1.size) r1.out ((below_alloc w1 (.cells #[.string x.kind,.string x.name,.int .i64 x.ver,.int .i64 x.born,.string x.text,.bool x.ending,.slice A x.hn C] 118)).trans (hbX.mono Zd)) z1)
 clear hbX B2 r1
 have p0:=r3.out.cell 0 Ze
 have p1:=r3.out.cell 1 Ze
 have p2:=r3.out.cell 2 Ze
 have p3:=r3.out.cell 3 Ze
 have p4:=r3.out.cell 4 Ze
 have p5:=r3.out.cell 5 Ze
 have p6:=r3.out.cell 6 Ze
 have pf:=r3.out.free
 simp only [vec,List.getD_cons_zero,List.getD_cons_succ] at p0 p1 p2 p3 p4 p5 p6
 have q0:=r2.out.cell 0 Ze
 have q1:=r2.out.cell 1 Ze
 have q2:=r2.out.cell 2 Ze
 have q3:=r2.out.cell 3 Ze
 have q4:=r2.out.cell 4 Ze
 have q5:=r2.out.cell 5 Ze
 have q6:=r2.out.cell 6 Ze
 have qf:=r2.out.free
 simp only [vec,List.getD_cons_zero,List.getD_cons_succ] at q0 q1 q2 q3 q4 q5 q6
 rw [hh]
 go_wp2
 refine bodyPost_ret (v:=.tuple #[.agg #[.string ⟨#[]⟩,.string ⟨#[]⟩,.int .i64 0,.int .i64 0,.string ⟨#[]⟩,.bool false,.slice none 0 0],.iface 90 (.agg #[.int .i64 6,.int .i64 0])]) (by simp [results,Tryz.results100,go_sem,p0,p1,p2,p3,p4,p5,p6]) rfl ⟨rfl,by repeat (first|with_reducible exact B3.out|with_reducible refine Below.setCell ?_ Zm _|with_reducible refine Below.alloc ?_ Zm _|with_reducible refine Below.drew ?_)⟩
theorem hold_full (D K:Nat) (v:Wr) (pl:Int) (fo:Bool) (x:Ob) (A:Option Addr) (b off C:Nat) (w:World) (hD:D<w.1.size) (hd:DeskAt w D K v pl fo) (hs:∀ o:Obj,Calls Tryz.prog 154 #[.pointer (some ⟨D,0,none⟩)] (w.alloc o) fun e w'=>e=.returned (.tuple #[.agg #[.string x.kind,.string x.name,.int .i64 x.ver,.int .i64 x.born,.string x.text,.bool x.ending,.slice A x.hn C],.nilIface])∧Below (w.alloc o).1.size (w.alloc o) w') (hl:(x.hn:Int)≤1000) (hc:StrsIn w 0 w.1.size A x.hn x.hs) (ha:HsAsc x.hn x.hs) (hrc:RowC w 1 A b off x.hn C (strCells x.hn x.hs)) (hh:hasB x.hn x.hs v.hold=false) (h5:x.hn=5) :
  Calls Tryz.prog 100 #[.pointer (some ⟨D,0,none⟩)] w fun e w'=>e=.returned (.tuple #[.agg #[.string ⟨#[]⟩,.string ⟨#[]⟩,.int .i64 0,.int .i64 0,.string ⟨#[]⟩,.bool false,.slice none 0 0],.iface 90 (.agg #[.int .i64 7,.int .i64 0])])∧Below w.1.size w w':=by
 have HS:=hid hs
 have HD:=hid hd
 have HC:=hid hc
 have HRC:=hid hrc
 clear hs hd hc hrc
 have H5:=hid h5
 clear h5
 go_enter Tryz.func100,Tryz.ntmps100
 go_wp2_with fail
 refine (HS.out _).mono ?_
 rintro e w1 ⟨rfl,hb1⟩
 have z1:=(two_alloc hb1).2
 have b1:=(two_alloc hb1).1
 have r1:=hid (RowF.new (w:=w) (l:=[.string ⟨#[]⟩,.string ⟨#[]⟩,.int .i64 0,.int .i64 0,.string ⟨#[]⟩,.bool false,.slice none 0 0]) (t:=118) hb1)
 clear hb1
 go_wp2_with fail
 have B2:=b1.trans ((below_alloc w1 (.cells #[.string x.kind,.string x.name,.int .i64 x.ver,.int .i64 x.born,.string x.text,.bool x.ending,.slice A x.hn C] 118)).mono b1.size)
 refine hoReg4 _ _ _ _ _ _ _ _ _ _ _ _ _ _ _ _ _ _ _ _ _ _ _ _ _ _ _ _ _ _ _ _ _ _ _ (fun _=>undef) D K w1.1.size v pl fo x A C _ Zc Zd (HD.out.grow B2 hD) (new_cell rfl) Za ((HC.out.below B2 Zbt).mono Zbt B2.size) ha _ ?_
 intro t X hbX
 have r2:=hid (RowF.new (w:=w1) (l:=[.string x.kind,.string x.name,.int .i64 x.ver,.int .i64 x.born,.string x.text,.bool x.ending,.slice A x.hn C]) (t:=118) hbX)
 have B3:=hid (B2.trans (hbX.mono B2.size))
 have zX:w1.1.size<X.1.size:=by have:=hbX.size;simp at this;omega
 have r3:=hid (RowF.below (B:=w1.1.size) r1.out ((below_alloc w1 (.cells #[.string x.kind,.string x.name,.int .i64 x.ver,.int .i64 x.born,.string x.text,.bool x.ending,.slice A x.hn C] 118)).trans (hbX.mono Zd)) z1)
 clear hbX B2 r1
 have p0:=r3.out.cell 0 Ze
 have p1:=r3.out.cell 1 Ze
 have p2:=r3.out.cell 2 Ze
 have p3:=r3.out.cell 3 Ze
 have p4:=r3.out.cell 4 Ze
 have p5:=r3.out.cell 5 Ze
 have p6:=r3.out.cell 6 Ze
 have pf:=r3.out.free
 simp only [vec,List.getD_cons_zero,List.getD_cons_succ] at p0 p1 p2 p3 p4 p5 p6
 have q0:=r2.out.cell 0 Ze
 have q1:=r2.out.cell 1 Ze
 have q2:=r2.out.cell 2 Ze
 have q3:=r2.out.cell 3 Ze
 have q4:=r2.out.cell 4 Ze
 have q5:=r2.out.cell 5 Ze
 have q6:=r2.out.cell 6 Ze
 have qf:=r2.out.free
 simp only [vec,List.getD_cons_zero,List.getD_cons_succ] at q0 q1 q2 q3 q4 q5 q6
 rw [H5.out] at q6
 rw [hh]
 go_wp2
 refine bodyPost_ret (v:=.tuple #[.agg #[.string ⟨#[]⟩,.string ⟨#[]⟩,.int .i64 0,.int .i64 0,.string ⟨#[]⟩,.bool false,.slice none 0 0],.iface 90 (.agg #[.int .i64 7,.int .i64 0])]) (by simp [results,Tryz.results100,go_sem,p0,p1,p2,p3,p4,p5,p6]) rfl ⟨rfl,by repeat (first|with_reducible exact B3.out|with_reducible refine Below.setCell ?_ Zm _|with_reducible refine Below.alloc ?_ Zm _|with_reducible refine Below.drew ?_)⟩
theorem letGo_not (D K:Nat) (v:Wr) (pl:Int) (fo:Bool) (x:Ob) (A:Option Addr) (b off C:Nat) (w:World) (hD:D<w.1.size) (hd:DeskAt w D K v pl fo) (hs:∀ o:Obj,Calls Tryz.prog 157 #[.pointer (some ⟨D,0,none⟩)] (w.alloc o) fun e w'=>e=.returned (.tuple #[.agg #[.string x.kind,.string x.name,.int .i64 x.ver,.int .i64 x.born,.string x.text,.bool x.ending,.slice A x.hn C],.nilIface])∧Below (w.alloc o).1.size (w.alloc o) w') (hl:(x.hn:Int)≤1000) (hc:StrsIn w 0 w.1.size A x.hn x.hs) (ha:HsAsc x.hn x.hs) (hrc:RowC w 1 A b off x.hn C (strCells x.hn x.hs)) (hh:hasB x.hn x.hs v.hold=false) :
  Calls Tryz.prog 101 #[.pointer (some ⟨D,0,none⟩)] w fun e w'=>e=.returned (.tuple #[.agg #[.string ⟨#[]⟩,.string ⟨#[]⟩,.int .i64 0,.int .i64 0,.string ⟨#[]⟩,.bool false,.slice none 0 0],.iface 90 (.agg #[.int .i64 6,.int .i64 0])])∧Below w.1.size w w':=by
 have HS:=hid hs
 have HD:=hid hd
 have HC:=hid hc
 have HRC:=hid hrc
 clear hs hd hc hrc
 go_enter Tryz.func101,Tryz.ntmps101
 go_wp2_with fail
 refine (HS.out _).mono ?_
 rintro e w1 ⟨rfl,hb1⟩
 have z1:=(two_alloc hb1).2
 have b1:=(two_alloc hb1).1
 have r1:=hid (RowF.new (w:=w) (l:=[.string ⟨#[]⟩,.string ⟨#[]⟩,.int .i64 0,.int .i64 0,.string ⟨#[]⟩,.bool false,.slice none 0 0]) (t:=118) hb1)
 clear hb1
 go_wp2_with fail
 have B2:=b1.trans ((below_alloc w1 (.cells #[.string x.kind,.string x.name,.int .i64 x.ver,.int .i64 x.born,.string x.text,.bool x.ending,.slice A x.hn C] 118)).mono b1.size)
 refine leReg4 _ _ _ _ _ _ _ _ _ _ _ _ _ _ _ _ _ _ _ _ _ _ _ _ (fun _=>undef) D K w1.1.size v pl fo x A C _ Zc Zd (HD.out.grow B2 hD) (new_cell rfl) Za ((HC.out.below B2 Zbt).mono Zbt B2.size) ha _ ?_
 intro t X hbX
 have r2:=hid (RowF.new (w:=w1) (l:=[.string x.kind,.string x.name,.int .i64 x.ver,.int .i64 x.born,.string x.text,.bool x.ending,.slice A x.hn C]) (t:=118) hbX)
 have B3:=hid (B2.trans (hbX.mono B2.size))
 have zX:w1.1.size<X.1.size:=by have:=hbX.size;simp at this;omega
 have r3:=hid (RowF.below (B:=w1.1.size) r1.out ((below_alloc w1 (.cells #[.string x.kind,.string x.name,.int .i64 x.ver,.int .i64 x.born,.string x.text,.bool x.ending,.slice A x.hn C] 118)).trans (hbX.mono Zd)) z1)
 clear hbX B2 r1
 have p0:=r3.out.cell 0 Ze
 have p1:=r3.out.cell 1 Ze
 have p2:=r3.out.cell 2 Ze
 have p3:=r3.out.cell 3 Ze
 have p4:=r3.out.cell 4 Ze
 have p5:=r3.out.cell 5 Ze
 have p6:=r3.out.cell 6 Ze
 have pf:=r3.out.free
 simp only [vec,List.getD_cons_zero,List.getD_cons_succ] at p0 p1 p2 p3 p4 p5 p6
 have q0:=r2.out.cell 0 Ze
 have q1:=r2.out.cell 1 Ze
 have q2:=r2.out.cell 2 Ze
 have q3:=r2.out.cell 3 Ze
 have q4:=r2.out.cell 4 Ze
 have q5:=r2.out.cell 5 Ze
 have q6:=r2.out.cell 6 Ze
 have qf:=r2.out.free
 simp only [vec,List.getD_cons_zero,List.getD_cons_succ] at q0 q1 q2 q3 q4 q5 q6
 rw [hh]
 go_wp2
 refine bodyPost_ret (v:=.tuple #[.agg #[.string ⟨#[]⟩,.string ⟨#[]⟩,.int .i64 0,.int .i64 0,.string ⟨#[]⟩,.bool false,.slice none 0 0],.iface 90 (.agg #[.int .i64 6,.int .i64 0])]) (by simp [results,Tryz.results101,go_sem,p0,p1,p2,p3,p4,p5,p6]) rfl ⟨rfl,by repeat (first|with_reducible exact B3.out|with_reducible refine Below.setCell ?_ Zm _|with_reducible refine Below.alloc ?_ Zm _|with_reducible refine Below.drew ?_)⟩
theorem hold_ok (D K:Nat) (v:Wr) (pl:Int) (fo:Bool) (x:Ob) (A:Option Addr) (b off C:Nat) (w:World) (hD:D<w.1.size) (hd:DeskAt w D K v pl fo) (hs:∀ o:Obj,Calls Tryz.prog 154 #[.pointer (some ⟨D,0,none⟩)] (w.alloc o) fun e w'=>e=.returned (.tuple #[.agg #[.string x.kind,.string x.name,.int .i64 x.ver,.int .i64 x.born,.string x.text,.bool x.ending,.slice A x.hn C],.nilIface])∧Below (w.alloc o).1.size (w.alloc o) w') (hl:(x.hn:Int)≤1000) (hc:StrsIn w 0 w.1.size A x.hn x.hs) (ha:HsAsc x.hn x.hs) (hrc:RowC w 1 A b off x.hn C (strCells x.hn x.hs)) (hh:hasB x.hn x.hs v.hold=false) (h5:¬x.hn=5) :
  Calls Tryz.prog 100 #[.pointer (some ⟨D,0,none⟩)] w fun e w'=>∃ a4 c4,e=.returned (.tuple #[.agg #[.string x.kind,.string x.name,.int .i64 x.ver,.int .i64 x.born,.string x.text,.bool x.ending,.slice a4 (x.hn+1) c4],.nilIface])∧w'.ownsRow w.1.size 9 1 (.slice a4 (x.hn+1) c4) (x.hn+1) ((strCells x.hn x.hs).take (rkS x.hs v.hold x.hn*1) ++ [.string v.hold] ++ (strCells x.hn x.hs).drop (rkS x.hs v.hold x.hn*1))∧Below w.1.size w w':=by
 have HS:=hid hs
 have HD:=hid hd
 have HC:=hid hc
 have HRC:=hid hrc
 clear hs hd hc hrc
 go_enter Tryz.func100,Tryz.ntmps100
 go_wp2_with fail
 refine (HS.out _).mono ?_
 rintro e w1 ⟨rfl,hb1⟩
 have z1:=(two_alloc hb1).2
 have b1:=(two_alloc hb1).1
 have r1:=hid (RowF.new (w:=w) (l:=[.string ⟨#[]⟩,.string ⟨#[]⟩,.int .i64 0,.int .i64 0,.string ⟨#[]⟩,.bool false,.slice none 0 0]) (t:=118) hb1)
 clear hb1
 go_wp2_with fail
 have B2:=b1.trans ((below_alloc w1 (.cells #[.string x.kind,.string x.name,.int .i64 x.ver,.int .i64 x.born,.string x.text,.bool x.ending,.slice A x.hn C] 118)).mono b1.size)
 refine hoReg4 _ _ _ _ _ _ _ _ _ _ _ _ _ _ _ _ _ _ _ _ _ _ _ _ _ _ _ _ _ _ _ _ _ _ _ (fun _=>undef) D K w1.1.size v pl fo x A C _ Zc Zd (HD.out.grow B2 hD) (new_cell rfl) Za ((HC.out.below B2 Zbt).mono Zbt B2.size) ha _ ?_
 intro t X hbX
 have r2:=hid (RowF.new (w:=w1) (l:=[.string x.kind,.string x.name,.int .i64 x.ver,.int .i64 x.born,.string x.text,.bool x.ending,.slice A x.hn C]) (t:=118) hbX)
 have B3:=hid (B2.trans (hbX.mono B2.size))
 have zX:w1.1.size<X.1.size:=by have:=hbX.size;simp at this;omega
 have r3:=hid (RowF.below (B:=w1.1.size) r1.out ((below_alloc w1 (.cells #[.string x.kind,.string x.name,.int .i64 x.ver,.int .i64 x.born,.string x.text,.bool x.ending,.slice A x.hn C] 118)).trans (hbX.mono Zd)) z1)
 clear hbX B2 r1
 have q0:=r2.out.cell 0 Ze
 have q1:=r2.out.cell 1 Ze
 have q2:=r2.out.cell 2 Ze
 have q3:=r2.out.cell 3 Ze
 have q4:=r2.out.cell 4 Ze
 have q5:=r2.out.cell 5 Ze
 have q6:=r2.out.cell 6 Ze
 have qf:=r2.out.free
 simp only [vec,List.getD_cons_zero,List.getD_cons_succ] at q0 q1 q2 q3 q4 q5 q6
 have h5':((x.hn:Int)==5)=false:=Zc
 rw [hh]
 go_wp2_with fail
 clear q0 q1 q2 q3 q4 q5 q6 qf h5'
 refine hoReg9 _ _ _ _ _ _ _ _ _ _ _ _ _ _ _ _ _ _ _ _ _ _ _ _ _ _ _ _ _ _ _ _ _ _ _ _ _ (fun _=>undef) D K w1.1.size v pl fo x A b off C (rkS x.hs v.hold x.hn) X Za zX (HD.out.grow B3.out hD) r2.out Za (rkS_is x.hs v.hold x.hn).1 (HRC.out.grow B3.out) _ ?_
 rintro t' v3 X2 ⟨v4,hown,hr4,hf⟩
 obtain ⟨a4,c4,rfl⟩:=own_slice hown
 have z2:=hf.size
 have HO:=hid hown
 have r5:=r3.out.fr hf Za
 have B4:=hid (B3.out.trans (hf.below (B:=w.1.size) (fun q hq e=>by omega) Za))
 have p0:=r5.cell 0 Ze
 have p1:=r5.cell 1 Ze
 have p2:=r5.cell 2 Ze
 have p3:=r5.cell 3 Ze
 have p4:=r5.cell 4 Ze
 have p5:=r5.cell 5 Ze
 have p6:=r5.cell 6 Ze
 have pf:=r5.free
 simp only [vec,List.getD_cons_zero,List.getD_cons_succ] at p0 p1 p2 p3 p4 p5 p6
 have q0:=hr4.cell 0 Ze
 have q1:=hr4.cell 1 Ze
 have q2:=hr4.cell 2 Ze
 have q3:=hr4.cell 3 Ze
 have q4:=hr4.cell 4 Ze
 have q5:=hr4.cell 5 Ze
 have q6:=hr4.cell 6 Ze
 have qf:=hr4.free
 simp only [vec,List.getD_cons_zero,List.getD_cons_succ] at q0 q1 q2 q3 q4 q5 q6
 clear hown hr4 hf r5
 go_wp2
 refine bodyPost_ret (v:=.tuple #[.agg #[.string x.kind,.string x.name,.int .i64 x.ver,.int .i64 x.born,.string x.text,.bool x.ending,.slice a4 (x.hn+1) c4],.nilIface]) (by simp [results,Tryz.results100,go_sem,p0,p1,p2,p3,p4,p5,p6]) rfl ⟨a4,c4,rfl,?_,by repeat (first|with_reducible exact B4.out|with_reducible refine Below.setCell ?_ Zm _|with_reducible refine Below.alloc ?_ Zm _|with_reducible refine Below.drew ?_)⟩
 refine ownsRow_fr (own_base HO.out Za) (P:=fun q=>q=w.1.size) ?_ (fun g hg e=>by have:=(HO.out.lt g hg).1;omega)
 iterate 7 refine FrP.setCell (P:=fun q=>q=w.1.size) ?_ (by rfl) _
 exact FrP.refl _ _
theorem letGo_ok (D K:Nat) (v:Wr) (pl:Int) (fo:Bool) (x:Ob) (A:Option Addr) (b off C:Nat) (w:World) (hD:D<w.1.size) (hd:DeskAt w D K v pl fo) (hs:∀ o:Obj,Calls Tryz.prog 157 #[.pointer (some ⟨D,0,none⟩)] (w.alloc o) fun e w'=>e=.returned (.tuple #[.agg #[.string x.kind,.string x.name,.int .i64 x.ver,.int .i64 x.born,.string x.text,.bool x.ending,.slice A x.hn C],.nilIface])∧Below (w.alloc o).1.size (w.alloc o) w') (hl:(x.hn:Int)≤1000) (hc:StrsIn w 0 w.1.size A x.hn x.hs) (ha:HsAsc x.hn x.hs) (hrc:RowC w 1 A b off x.hn C (strCells x.hn x.hs)) (hh:hasB x.hn x.hs v.hold=true) (hk:rkS x.hs v.hold x.hn<x.hn) :
  Calls Tryz.prog 101 #[.pointer (some ⟨D,0,none⟩)] w fun e w'=>∃ a4 c4,e=.returned (.tuple #[.agg #[.string x.kind,.string x.name,.int .i64 x.ver,.int .i64 x.born,.string x.text,.bool x.ending,.slice a4 (x.hn-1) c4],.nilIface])∧w'.ownsRow w.1.size 9 1 (.slice a4 (x.hn-1) c4) (x.hn-1) ((strCells x.hn x.hs).take (rkS x.hs v.hold x.hn*1) ++ (strCells x.hn x.hs).drop ((rkS x.hs v.hold x.hn+1)*1))∧Below w.1.size w w':=by
 have HS:=hid hs
 have HD:=hid hd
 have HC:=hid hc
 have HRC:=hid hrc
 clear hs hd hc hrc
 go_enter Tryz.func101,Tryz.ntmps101
 go_wp2_with fail
 refine (HS.out _).mono ?_
 rintro e w1 ⟨rfl,hb1⟩
 have z1:=(two_alloc hb1).2
 have b1:=(two_alloc hb1).1
 have r1:=hid (RowF.new (w:=w) (l:=[.string ⟨#[]⟩,.string ⟨#[]⟩,.int .i64 0,.int .i64 0,.string ⟨#[]⟩,.bool false,.slice none 0 0]) (t:=118) hb1)
 clear hb1
 go_wp2_with fail
 have B2:=b1.trans ((below_alloc w1 (.cells #[.string x.kind,.string x.name,.int .i64 x.ver,.int .i64 x.born,.string x.text,.bool x.ending,.slice A x.hn C] 118)).mono b1.size)
 refine leReg4 _ _ _ _ _ _ _ _ _ _ _ _ _ _ _ _ _ _ _ _ _ _ _ _ (fun _=>undef) D K w1.1.size v pl fo x A C _ Zc Zd (HD.out.grow B2 hD) (new_cell rfl) Za ((HC.out.below B2 Zbt).mono Zbt B2.size) ha _ ?_
 intro t X hbX
 have r2:=hid (RowF.new (w:=w1) (l:=[.string x.kind,.string x.name,.int .i64 x.ver,.int .i64 x.born,.string x.text,.bool x.ending,.slice A x.hn C]) (t:=118) hbX)
 have B3:=hid (B2.trans (hbX.mono B2.size))
 have zX:w1.1.size<X.1.size:=by have:=hbX.size;simp at this;omega
 have r3:=hid (RowF.below (B:=w1.1.size) r1.out ((below_alloc w1 (.cells #[.string x.kind,.string x.name,.int .i64 x.ver,.int .i64 x.born,.string x.text,.bool x.ending,.slice A x.hn C] 118)).trans (hbX.mono Zd)) z1)
 clear hbX B2 r1
 have q0:=r2.out.cell 0 Ze
 have q1:=r2.out.cell 1 Ze
 have q2:=r2.out.cell 2 Ze
 have q3:=r2.out.cell 3 Ze
 have q4:=r2.out.cell 4 Ze
 have q5:=r2.out.cell 5 Ze
 have q6:=r2.out.cell 6 Ze
 have qf:=r2.out.free
 simp only [vec,List.getD_cons_zero,List.getD_cons_succ] at q0 q1 q2 q3 q4 q5 q6
 rw [hh]
 go_wp2_with fail
 refine (remS_any A b off x.hn C (rkS x.hs v.hold x.hn) (strCells x.hn x.hs) X (HRC.out.grow B3.out) hk Za).mono ?_
 rintro r X2 ⟨v4,rfl,hown,hb4⟩
 obtain ⟨a4,c4,rfl⟩:=own_slice hown
 have z2:=hb4.size
 have HO:=hid hown
 have r5:=r3.out.below hb4 Za
 have r6:=r2.out.below hb4 zX
 have B4:=hid (B3.out.trans (hb4.mono Za))
 clear q0 q1 q2 q3 q4 q5 q6 qf
 have p0:=r5.cell 0 Ze
 have p1:=r5.cell 1 Ze
 have p2:=r5.cell 2 Ze
 have p3:=r5.cell 3 Ze
 have p4:=r5.cell 4 Ze
 have p5:=r5.cell 5 Ze
 have p6:=r5.cell 6 Ze
 have pf:=r5.free
 simp only [vec,List.getD_cons_zero,List.getD_cons_succ] at p0 p1 p2 p3 p4 p5 p6
 have q0:=r6.cell 0 Ze
 have q1:=r6.cell 1 Ze
 have q2:=r6.cell 2 Ze
 have q3:=r6.cell 3 Ze
 have q4:=r6.cell 4 Ze
 have q5:=r6.cell 5 Ze
 have q6:=r6.cell 6 Ze
 have qf:=r6.free
 simp only [vec,List.getD_cons_zero,List.getD_cons_succ] at q0 q1 q2 q3 q4 q5 q6
 clear hown hb4 r5 r6
 go_wp2
 refine bodyPost_ret (v:=.tuple #[.agg #[.string x.kind,.string x.name,.int .i64 x.ver,.int .i64 x.born,.string x.text,.bool x.ending,.slice a4 (x.hn-1) c4],.nilIface]) (by simp [results,Tryz.results101,go_sem,p0,p1,p2,p3,p4,p5,p6]) rfl ⟨a4,c4,rfl,?_,by repeat (first|with_reducible exact B4.out|with_reducible refine Below.setCell ?_ Zm _|with_reducible refine Below.alloc ?_ Zm _|with_reducible refine Below.drew ?_)⟩
 refine ownsRow_fr (own_base HO.out Za) (P:=fun q=>q=w.1.size∨q=w1.1.size) ?_ (fun g hg e=>by have:=(HO.out.lt g hg).1;omega)
 iterate 8 refine FrP.setCell (P:=fun q=>q=w.1.size∨q=w1.1.size) ?_ (by first|exact Or.inl rfl|exact Or.inr rfl) _
 exact FrP.refl _ _
end Go.Proofs.YtllmmkchokkaaaaGreatDoor
