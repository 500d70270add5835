import Derived.Test.YtllmmkchokkaaaaGreatDoorPk26
import Derived.Laws.EntriesVeiled
import Derived.Test.YtllmmkchokkaaaaGreatDoorPk15
import Derived.Deep.MidRow
import Derived.WalkKit
import Derived.LaidEql
import Derived.Stop.Asserts
import Derived.RowKitTokens
import Derived.Test.YtllmmkchokkaaaaGreatDoorPk22
set_option maxRecDepth 100000
set_option maxHeartbeats 4000000
namespace Go.Proofs.YtllmmkchokkaaaaGreatDoor
open Go.RowKit Go.Maps
theorem ObjsIn.up {w:World} {lo hi hi2:Nat} {ad:Option Addr} {n:Nat} {x:Nat→Ob} (h:ObjsIn w lo hi ad n x) (hh:hi≤hi2):ObjsIn w lo hi2 ad n x:=fun i hi'=>by
 obtain ⟨b,off,ah,ch,e1,e2,e3,e4,e5⟩:=h i hi'
 exact ⟨b,off,ah,ch,e1,e2,Nat.lt_of_lt_of_le e3 hh,e4,e5.mono Zbt hh⟩
def plB (x:Nat→Ob) (ki na:ByteArray):Nat→Nat
 | 0=>0
 | n+1=>if plB x ki na n=n∧kcI x ki na n<0 then n+1 else plB x ki na n
theorem plB_is (x:Nat→Ob) (ki na:ByteArray):∀ n,plB x ki na n≤n∧(∀ j,j<plB x ki na n→kcI x ki na j<0)∧(plB x ki na n<n→¬kcI x ki na (plB x ki na n)<0)
 | 0=>⟨Nat.le_refl _,fun j hj=>absurd hj (Nat.not_lt_zero _),fun h=>absurd h (Nat.not_lt_zero _)⟩
 | n+1=>by
  obtain ⟨h1,h2,h3⟩:=plB_is x ki na n
  unfold plB
  by_cases e:plB x ki na n=n∧kcI x ki na n<0
  ·rw [if_pos e]
   refine ⟨Nat.le_refl _,fun j hj=>?_,fun h=>absurd h (Nat.lt_irrefl _)⟩
   rcases Nat.lt_or_ge j n with h|h
   ·exact h2 j Za
   ·obtain rfl:j=n:=Za
    exact e.2
  ·rw [if_neg e]
   refine ⟨Za,h2,fun _=>?_⟩
   rcases Nat.lt_or_ge (plB x ki na n) n with h|h
   ·exact h3 h
   ·have e1:plB x ki na n=n:=Za
    rw [e1]
    exact fun hx=>e ⟨e1,hx⟩
theorem plB_eq {x:Nat→Ob} {ki na:ByteArray} {n i:Nat} (hi:i≤n) (h1:∀ j,j<i→kcI x ki na j<0) (h2:i<n→¬kcI x ki na i<0):plB x ki na n=i:=by
 obtain ⟨g1,g2,g3⟩:=plB_is x ki na n
 rcases Nat.lt_trichotomy (plB x ki na n) i with h|h|h
 ·exact absurd (h1 _ h) (g3 Za)
 ·exact h
 ·exact absurd (g2 _ h) (h2 Za)
def plW (B:Bk) (v:Wr):Nat:=plB B.os v.kind v.name B.on
def foB (B:Bk) (v:Wr):Bool:=decide (plW B v<B.on)&&decide (kcI B.os v.kind v.name (plW B v)=0)
theorem place_rk (B:Bk) (v:Wr) (ad:Option Addr) (cap:Nat) (w:World) (lo hi:Nat) (hhi:hi≤w.1.size) (hc:ObjsIn w lo hi ad B.on B.os) (hok:WOk B v) :
  Calls Tryz.prog 96 #[.slice ad B.on cap,.agg #[.string v.kind,.string v.name]] w fun e w'=>e=.returned (.tuple #[.int .i64 (plB B.os v.kind v.name B.on:Nat),.bool (foB B v)])∧Below w.1.size w w':=by
 have hon:=hok.on
 refine (placeOf_any B.on B.os ad cap v.kind v.name w lo hi hhi Za hc (kc_asc hok)).mono ?_
 rintro e w' ⟨i,h1,h2,h3,rfl,hb⟩
 have e1:plB B.os v.kind v.name B.on=i:=plB_eq h1 h2 (fun h=>by have:=h3 i Zbt h;omega)
 refine ⟨?_,hb⟩
 unfold foB plW
 rw [e1]
theorem place_at {B:Bk} {v:Wr} (hok:WOk B v):PlaceAt B v (plW B v):=by
 obtain ⟨h1,h2,h3⟩:=plB_is B.os v.kind v.name B.on
 refine ⟨h1,h2,fun j hj hn hx=>?_⟩
 rcases Nat.eq_or_lt_of_le hj with e|e
 ·subst e
  exact h3 hn hx
 ·exact h3 (Nat.lt_trans e hn) (kc_asc hok _ j e hn hx)
def wiReg1G (K Bw:Nat) (B:Bk) (y:Wr) (a1:Option Addr) (c1:Nat) (_W:World) (i:Nat) (v:Value) (_X:World):Prop:=
 match i with
 | 0=>v=.pointer (some ⟨K,0,none⟩)
 | 1=>v=.pointer (some ⟨K,0,none⟩)
 | 2=>v=.pointer (some ⟨K,2,none⟩)
 | 3=>v=.slice a1 B.on c1
 | 4=>v=.pointer (some ⟨Bw,1,none⟩)
 | 5=>v=.string y.kind
 | 6=>v=.pointer (some ⟨Bw,2,none⟩)
 | 7=>v=.string y.name
 | 8=>v=.agg #[.string y.kind,.string y.name]
 | 9=>v=.tuple #[.int .i64 (plB B.os y.kind y.name B.on:Nat),.bool (foB B y)]
 | 10=>v=.tuple #[.int .i64 (plB B.os y.kind y.name B.on:Nat),.bool (foB B y)]
 | 11=>v=.int .i64 (plB B.os y.kind y.name B.on:Nat)
 | 12=>v=.bool (foB B y)
 | 13=>v=.int .i64 (plB B.os y.kind y.name B.on:Nat)
 | 14=>v=.bool (foB B y)
 | _=>True
theorem wiReg1 (p1 p2 p4 p7 p8 p9 p10 p24 p25 p26 p27 p28 p29 p30 p31 p32 p33 p34 p35 p36 p37 p38 p39 p40 p41 p42 p43 p44 p45 p46 p47 p48 p49 p50 p51 p52 p53 p54 p55 p56 p57 p58 p59 p60 p61:Value) (t0:Nat→Value) (K Bw:Nat) (B:Bk) (y:Wr) (a1:Option Addr) (c1:Nat) (W:World) (hK:K<W.1.size) (hk:W.cell? ⟨K,2,none⟩=some (.slice a1 B.on c1)) (hw:RowF W Bw 6 (vec [.int .i64 y.op,.string y.kind,.string y.name,.int .i64 y.seen,.string y.text,.string y.hold])) (ho:ObjsIn W 0 W.1.size a1 B.on B.os) (hok:WOk B y) (Q:Exit→Act→World→Prop) (hQ:∀ (t:Nat→Value) X,Below W.1.size W X→Q .normal ⟨#[.pointer (some ⟨K,0,none⟩),p1,p2,.pointer (some ⟨Bw,0,none⟩),p4,.int .i64 (plB B.os y.kind y.name B.on:Nat),.bool (foB B y),p7,p8,p9,p10,t 10,t 0,t 1,t 2,t 3,t 4,t 5,t 6,t 7,t 8,t 9,t 11,t 12,p24,p25,p26,p27,p28,p29,p30,p31,p32,p33,p34,p35,p36,p37,p38,p39,p40,p41,p42,p43,p44,p45,p46,p47,p48,p49,p50,p51,p52,p53,p54,p55,p56,p57,p58,p59,p60,p61],[]⟩ X) :
  Code.wp Tryz.prog (Code.region 1 #[⟨some 12,.move (.tmp 0),88, "l2_book_write.go:118",#[],none⟩,⟨some 13,.nilCheck (.tmp 12),0, "l2_book_write.go:118",#[⟨0,.data⟩],none⟩,⟨some 14,.fieldAddr 35 (.tmp 13) 2,0, "l2_book_write.go:118",#[⟨1,.data⟩],none⟩,⟨some 15,.load 31 (.tmp 14),31, "l2_book_write.go:118",#[⟨2,.data⟩],none⟩,⟨some 16,.fieldAddr 40 (.tmp 3) 1,0, "l2_book_write.go:118",#[],none⟩,⟨some 17,.load 9 (.tmp 16),9, "l2_book_write.go:118",#[⟨4,.data⟩],none⟩,⟨some 18,.fieldAddr 40 (.tmp 3) 2,0, "l2_book_write.go:118",#[],none⟩,⟨some 19,.load 9 (.tmp 18),9, "l2_book_write.go:118",#[⟨6,.data⟩],none⟩,⟨some 20,.build 139 #[(0,.tmp 17),(1,.tmp 19)],139, "l2_book_write.go:118",#[⟨5,.data⟩,⟨7,.data⟩],none⟩,⟨some 21,.call ⟨.value (.func 96),#[.tmp 15,.tmp 20],#[31,139]⟩,136, "l2_book_write.go:118",#[⟨3,.data⟩,⟨8,.data⟩],none⟩,⟨some 11,.move (.tmp 21),136, "l2_book_write.go:118",#[⟨9,.data⟩],none⟩,⟨some 22,.extract (.tmp 11) 0,3, "l2_book_write.go:118",#[⟨10,.data⟩],none⟩,⟨some 23,.extract (.tmp 11) 1,4, "l2_book_write.go:118",#[⟨10,.data⟩,{ on:=13,ground:=Ground.gcOnly Departure.lateStores }],none⟩,⟨some 5,.assign (.tmp 22),3, "l2_book_write.go:118",#[⟨11,.data⟩,⟨9,.chain⟩,⟨0,.phase⟩,⟨1,.phase⟩,⟨2,.phase⟩,⟨3,.phase⟩,⟨4,.phase⟩,⟨5,.phase⟩,⟨6,.phase⟩,⟨7,.phase⟩,⟨8,.phase⟩,⟨9,.phase⟩,⟨10,.phase⟩,⟨11,.phase⟩,{ on:=12,ground:=Ground.textOnly Departure.lateStores }],none⟩,⟨some 6,.assign (.tmp 23),4, "l2_book_write.go:118",#[⟨12,.data⟩,⟨13,.chain⟩,⟨0,.phase⟩,⟨1,.phase⟩,⟨2,.phase⟩,⟨3,.phase⟩,⟨4,.phase⟩,⟨5,.phase⟩,⟨6,.phase⟩,⟨7,.phase⟩,⟨8,.phase⟩,⟨9,.phase⟩,⟨10,.phase⟩,⟨11,.phase⟩,⟨12,.phase⟩,⟨13,.phase⟩],none⟩] true) Q ⟨#[.pointer (some ⟨K,0,none⟩),p1,p2,.pointer (some ⟨Bw,0,none⟩),p4,t0 13,t0 14,p7,p8,p9,p10,t0 10,t0 0,t0 1,t0 2,t0 3,t0 4,t0 5,t0 6,t0 7,t0 8,t0 9,t0 11,t0 12,p24,p25,p26,p27,p28,p29,p30,p31,p32,p33,p34,p35,p36,p37,p38,p39,p40,p41,p42,p43,p44,p45,p46,p47,p48,p49,p50,p51,p52,p53,p54,p55,p56,p57,p58,p59,p60,p61],[]⟩ W:=by
 refine regionV Zf 15 (fun t:Nat→Value=>#[.pointer (some ⟨K,0,none⟩),p1,p2,.pointer (some ⟨Bw,0,none⟩),p4,t 13,t 14,p7,p8,p9,p10,t 10,t 0,t 1,t 2,t 3,t 4,t 5,t 6,t 7,t 8,t 9,t 11,t 12,p24,p25,p26,p27,p28,p29,p30,p31,p32,p33,p34,p35,p36,p37,p38,p39,p40,p41,p42,p43,p44,p45,p46,p47,p48,p49,p50,p51,p52,p53,p54,p55,p56,p57,p58,p59,p60,p61]) t0 (wiReg1G K Bw B y a1 c1 W) Zf Zf ?_ rfl ?_ ?_
 ·exact fun _ _ _ _ _ h _=>h
 ·intro i hi t X KK hb hg hKK
  rcases (show i=0∨i=1∨i=2∨i=3∨i=4∨i=5∨i=6∨i=7∨i=8∨i=9∨i=10∨i=11∨i=12∨i=13∨i=14 by omega) with rfl|rfl|rfl|rfl|rfl|rfl|rfl|rfl|rfl|rfl|rfl|rfl|rfl|rfl|rfl
  ·have h:=hKK (.pointer (some ⟨K,0,none⟩)) X rfl Zbv
   refine wpOp_of rfl rfl ?_
   clear hKK hg
   go_simp
   simpa [updT] using h
  ·have e0:t 0=.pointer (some ⟨K,0,none⟩):=hg 0 (Wt rfl)
   have h:=hKK (.pointer (some ⟨K,0,none⟩)) X rfl Zbv
   refine wpOp_of rfl rfl ?_
   clear hKK hg
   go_simp
   simpa [updT,e0] using h
  ·have e1:t 1=.pointer (some ⟨K,0,none⟩):=hg 1 (Wt rfl)
   have h:=hKK (.pointer (some ⟨K,2,none⟩)) X rfl Zbv
   refine wpOp_of rfl rfl ?_
   clear hKK hg
   go_simp
   simpa [updT,e1] using h
  ·have e2:t 2=.pointer (some ⟨K,2,none⟩):=hg 2 (Wt rfl)
   have l0:=(hb.cell (p:=⟨K,2,none⟩) hK).trans hk
   have zl:=Nat.lt_of_lt_of_le hK hb.size
   have h:=hKK (.slice a1 B.on c1) X rfl Zbv
   refine wpOp_of rfl rfl ?_
   clear hKK hg
   go_simp
   simpa [updT,e2] using h
  ·have h:=hKK (.pointer (some ⟨Bw,1,none⟩)) X rfl Zbv
   refine wpOp_of rfl rfl ?_
   clear hKK hg
   go_simp
   simpa [updT] using h
  ·have e4:t 4=.pointer (some ⟨Bw,1,none⟩):=hg 4 (Wt rfl)
   have l0:=(hb.cell (p:=⟨Bw,1,none⟩) hw.lt).trans (show W.cell? ⟨Bw,1,none⟩=some (.string y.kind) from hw.cell 1 Ze)
   have zl:=Nat.lt_of_lt_of_le hw.lt hb.size
   have h:=hKK (.string y.kind) X rfl Zbv
   refine wpOp_of rfl rfl ?_
   clear hKK hg
   go_simp
   simpa [updT,e4] using h
  ·have h:=hKK (.pointer (some ⟨Bw,2,none⟩)) X rfl Zbv
   refine wpOp_of rfl rfl ?_
   clear hKK hg
   go_simp
   simpa [updT] using h
  ·have e6:t 6=.pointer (some ⟨Bw,2,none⟩):=hg 6 (Wt rfl)
   have l0:=(hb.cell (p:=⟨Bw,2,none⟩) hw.lt).trans (show W.cell? ⟨Bw,2,none⟩=some (.string y.name) from hw.cell 2 Ze)
   have zl:=Nat.lt_of_lt_of_le hw.lt hb.size
   have h:=hKK (.string y.name) X rfl Zbv
   refine wpOp_of rfl rfl ?_
   clear hKK hg
   go_simp
   simpa [updT,e6] using h
  ·have e5:t 5=.string y.kind:=hg 5 (Wt rfl)
   have e7:t 7=.string y.name:=hg 7 (Wt rfl)
   have h:=hKK (.agg #[.string y.kind,.string y.name]) X rfl Zbv
   refine wpOp_of rfl rfl ?_
   clear hKK hg
   go_simp
   simpa [updT,e5,e7] using h
  ·have e3:t 3=.slice a1 B.on c1:=hg 3 (Wt rfl)
   have e8:t 8=.agg #[.string y.kind,.string y.name]:=hg 8 (Wt rfl)
   refine wpOp_of rfl rfl ?_
   have HK:=hid hKK
   have HO:=hid (ho.below hb Zbt)
   clear hKK hg
   go_simp
   go_at_call 96
   refine (place_rk B y a1 c1 X 0 W.1.size hb.size HO.out hok).mono ?_
   rintro r Y ⟨rfl,hbY⟩
   have h:=HK.out (.tuple #[.int .i64 (plB B.os y.kind y.name B.on:Nat),.bool (foB B y)]) Y rfl hbY
   simpa [updT,e3,e8] using h
  ·have e9:t 9=.tuple #[.int .i64 (plB B.os y.kind y.name B.on:Nat),.bool (foB B y)]:=hg 9 (Wt rfl)
   have h:=hKK (.tuple #[.int .i64 (plB B.os y.kind y.name B.on:Nat),.bool (foB B y)]) X rfl Zbv
   refine wpOp_of rfl rfl ?_
   clear hKK hg
   go_simp
   simpa [updT,e9] using h
  ·have e10:t 10=.tuple #[.int .i64 (plB B.os y.kind y.name B.on:Nat),.bool (foB B y)]:=hg 10 (Wt rfl)
   have h:=hKK (.int .i64 (plB B.os y.kind y.name B.on:Nat)) X rfl Zbv
   refine wpOp_of rfl rfl ?_
   clear hKK hg
   go_simp
   simpa [updT,e10] using h
  ·have e10:t 10=.tuple #[.int .i64 (plB B.os y.kind y.name B.on:Nat),.bool (foB B y)]:=hg 10 (Wt rfl)
   have h:=hKK (.bool (foB B y)) X rfl Zbv
   refine wpOp_of rfl rfl ?_
   clear hKK hg
   go_simp
   simpa [updT,e10] using h
  ·have e11:t 11=.int .i64 (plB B.os y.kind y.name B.on:Nat):=hg 11 (Wt rfl)
   have h:=hKK (.int .i64 (plB B.os y.kind y.name B.on:Nat)) X rfl Zbv
   refine wpOp_of rfl rfl ?_
   clear hKK hg
   go_simp
   simpa [updT,e11] using h
  ·have e12:t 12=.bool (foB B y):=hg 12 (Wt rfl)
   have h:=hKK (.bool (foB B y)) X rfl Zbv
   refine wpOp_of rfl rfl ?_
   clear hKK hg
   go_simp
   simpa [updT,e12] using h
 ·intro t X hb hG
  have f13:t 13=.int .i64 (plB B.os y.kind y.name B.on:Nat):=hG 13 Za
  have f14:t 14=.bool (foB B y):=hG 14 Za
  show Q .normal ⟨#[.pointer (some ⟨K,0,none⟩),p1,p2,.pointer (some ⟨Bw,0,none⟩),p4,t 13,t 14,p7,p8,p9,p10,t 10,t 0,t 1,t 2,t 3,t 4,t 5,t 6,t 7,t 8,t 9,t 11,t 12,p24,p25,p26,p27,p28,p29,p30,p31,p32,p33,p34,p35,p36,p37,p38,p39,p40,p41,p42,p43,p44,p45,p46,p47,p48,p49,p50,p51,p52,p53,p54,p55,p56,p57,p58,p59,p60,p61],[]⟩ X
  rw [f13,f14]
  exact hQ t X hb
theorem desk_new {X:World} {o:Obj} (K:Nat) (B:Bk) (v:Wr) (op:Int) (h:op=v.op):DeskAt ((X.alloc (.cells #[.pointer (some ⟨K,0,none⟩),.int .i64 op,.string v.kind,.string v.name,.int .i64 v.seen,.string v.text,.string v.hold,.int .i64 (plB B.os v.kind v.name B.on:Nat),.bool (foB B v)] 141)).alloc o) X.1.size K v (plW B v:Nat) (foB B v):=by
 subst h
 have e:∀ j,((X.alloc (.cells #[.pointer (some ⟨K,0,none⟩),.int .i64 v.op,.string v.kind,.string v.name,.int .i64 v.seen,.string v.text,.string v.hold,.int .i64 (plB B.os v.kind v.name B.on:Nat),.bool (foB B v)] 141)).alloc o).cell? ⟨X.1.size,j,none⟩=#[.pointer (some ⟨K,0,none⟩),.int .i64 v.op,.string v.kind,.string v.name,.int .i64 v.seen,.string v.text,.string v.hold,.int .i64 (plB B.os v.kind v.name B.on:Nat),.bool (foB B v)][j]?:=fun j=>by
  rw [(below_alloc (X.alloc (.cells #[.pointer (some ⟨K,0,none⟩),.int .i64 v.op,.string v.kind,.string v.name,.int .i64 v.seen,.string v.text,.string v.hold,.int .i64 (plB B.os v.kind v.name B.on:Nat),.bool (foB B v)] 141)) o).cell (p:=⟨X.1.size,j,none⟩) Zd]
  exact new_cell rfl
 exact ⟨e 0,e 1,e 2,e 3,e 4,e 5,e 6,e 7,e 8⟩
structure WS (w:World) (K g:Nat) (B:Bk) (v:Wr) (L:List EO) (a1:Option Addr) (c1:Nat) (k1 k3 k4:Value):Prop where
 kr:RowF w K 5 (vec [.int .i64 B.now,k1,.slice a1 B.on c1,k3,k4])
 row:RowS w a1 g c1 L
 ol:L.map EO.ob=tkL B.on B.os
 hold:∀ e ∈ L,StrsIn w 0 w.1.size e.A e.ob.hn e.ob.hs
 cap:∀ e ∈ L,CapG w e.ob.hn e.A e.C
 ok:WOk B v
theorem WS.dk {w X:World} {K g:Nat} {B:Bk} {v:Wr} {L:List EO} {a1:Option Addr} {c1:Nat} {k1 k3 k4:Value} (h:WS w K g B v L a1 c1 k1 k3 k4) (hb:Below w.1.size w X) {D:Nat} (hd:DeskAt X D K v (plW B v:Nat) (foB B v)) (hD:D<X.1.size):DkIn X D K g B v L a1 c1 (plW B v) (foB B v):=
 have r:=h.kr.below hb h.kr.lt
 ⟨hd,hD,r.lt,r.cell 0 Zb,r.cell 2 Zb,h.row.grow hb,h.ol,fun e he=>((h.hold e he).below hb Zbt).mono Zbt hb.size,fun e he=>(h.cap e he).grow hb.size,place_at h.ok,rfl,h.ok⟩
theorem WS.objs {w:World} {K g:Nat} {B:Bk} {v:Wr} {L:List EO} {a1:Option Addr} {c1:Nat} {k1 k3 k4:Value} (h:WS w K g B v L a1 c1 k1 k3 k4):ObjsIn w 0 w.1.size a1 B.on B.os:=fun i hi=>by
 have hlen:L.length=B.on:=by
  have:=congrArg List.length h.ol
  simpa [tkL] using this
 rcases h.row with ⟨_,e2,_⟩|⟨e1,e2,_⟩
 ·rw [e2] at hlen
  simp at hlen
  omega
 ·have h1:=e2.ob i Za
  have h2:=h.hold _ (ixE_mem (L:=L) (i:=i) Za)
  have h3:(ixE L i).ob=B.os i:=by
   have h4:=ixE_map (L:=L) (i:=i) Za
   rw [h.ol] at h4
   simpa [tkL,hi] using h4.symm
  rw [h3] at h1 h2
  exact ⟨g,0,_,_,e1,Nat.zero_le _,e2.lt,by rw [Nat.zero_add];exact h1,h2⟩
def EOk (B:Bk) (v:Wr) (L:List EO) (w X:World) (E:EO):Prop:=
 E.ob=opOb B v (wOf B v).ver∧(StrsIn X 0 X.1.size E.A E.ob.hn E.ob.hs∧CapG X E.ob.hn E.A E.C) ∧
   (
     ((v.op=2∨v.op=3)∧E.A=(ixE L (plW B v)).A∧E.C=(ixE L (plW B v)).C∧E.hb=(ixE L (plW B v)).hb) ∨
     (¬v.op=2∧¬v.op=3∧w.1.size≤E.hb∧(E.ob.hn≠0→E.hb<X.1.size)∧StrsOwn X E.hb (E.hb+1) E.A E.ob.hn E.ob.hs))
theorem EOk.grow {B:Bk} {v:Wr} {L:List EO} {w X Y:World} {E:EO} (h:EOk B v L w X E) (hb:Below X.1.size X Y):EOk B v L w Y E:=by
 obtain ⟨h1,h2,h3⟩:=h
 refine ⟨h1,⟨(h2.1.below hb Zbt).mono Zbt hb.size,h2.2.grow hb.size⟩,?_⟩
 rcases h3 with h3|⟨q1,q2,q3,q4,q5⟩
 ·exact Or.inl h3
 ·exact Or.inr ⟨q1,q2,q3,fun h0=>Nat.lt_of_lt_of_le (q4 h0) hb.size,q5.frP (FrP.of_below (P:=fun _=>False) hb) (fun h0=>⟨id,q4 h0⟩)⟩
def IntoP (B:Bk) (v:Wr) (L:List EO) (Pst:EO→World→World→Prop) (w:World) (e:Ending) (w':World):Prop:=
 (¬wCode B v=0∧e=.returned (.iface 146 (.agg #[.int .i64 v.op,.string v.kind,.string v.name,.int .i64 v.seen,.string v.text,.string v.hold,.iface 90 (.agg #[.int .i64 (wCode B v),.int .i64 (oVer B v)])]))∧Below w.1.size w w') ∨
 (wCode B v=0∧e=.returned .nilIface∧∃ E X,Below w.1.size w X∧EOk B v L w X E∧Pst E X w')
theorem apP270 {P:Prop} (h:P:=by
  have h1:=HIN.out.ok.now1
  have hcc:wCode B v=0:=by unfold wCode;rw [if_pos hc,if_neg Za]
  have HE:=hid (show EOk B v L w w9 E from ⟨hE,hE2,by
   rcases hE3 with q|⟨q1,q2,q3,q4,q5⟩
   ·exact Or.inl q
   ·exact Or.inr ⟨q1,q2,Nat.le_trans Zc q3,q4,q5⟩⟩)
  have hm1:(B.now==1000000)=false:=by simpa using hm
  have HCC:=hid hcc
  clear hc hcc hm hov hE hE2 hE3 h1
  go_wp2_with fail
  refine (HP.out X.1.size _ E (HB9.out.trans ((below_alloc w9 _).mono (Nat.le_of_lt zW9))) (DK9.out _) zD9 (HE.out.grow (below_alloc w9 _)) HCC.out).mono ?_
  rintro e w10 ⟨rfl,hst⟩
  have HFIN:=hid (show IntoP B v L Pst w (.returned .nilIface) w10 from Or.inr ⟨HCC.out,rfl,E,_,HB9.out.trans ((below_alloc w9 _).mono (Nat.le_of_lt zW9)),HE.out.grow (below_alloc w9 _),hst⟩)
  clear hst
  go_wp2
  go_ret
  exact HFIN.out):P:=h
theorem apP271 {P:Prop} (h:P:=by
  go_wp2
  go_ret
  exact HFIN.out _ (by repeat (first|with_reducible exact HB9.out|with_reducible refine Below.setCell ?_ Zj _|with_reducible refine Below.alloc ?_ Zj _))):P:=h
theorem apP272 {P:Prop} (h:P:=by
  rw [hm] at kk0
  clear hc hcc hm hov hE hE2 hE3
  exact apP271):P:=h
theorem into_1 (K g:Nat) (B:Bk) (v:Wr) (L:List EO) (a1:Option Addr) (c1:Nat) (k1 k3 k4:Value) (Pst:EO→World→World→Prop) (w:World) (hin:WS w K g B v L a1 c1 k1 k3 k4) (hop:v.op=1)
  (hP:∀ D X E,Below w.1.size w X→DkIn X D K g B v L a1 c1 (plW B v) (foB B v)→w.1.size≤D→EOk B v L w X E→wCode B v=0→Calls Tryz.prog 102 #[.pointer (some ⟨D,0,none⟩),obV E] X fun e w'=>e=.returned (.tuple #[])∧Pst E X w') :
  Calls Tryz.prog 43 #[.pointer (some ⟨K,0,none⟩),.agg #[.int .i64 v.op,.string v.kind,.string v.name,.int .i64 v.seen,.string v.text,.string v.hold]] w (IntoP B v L Pst w):=by
 have HIN:=hid hin
 have HOP:=hid hop
 have HP:=hid hP
 have zK:=hin.kr.lt
 have hB:=below_alloc w (.cells #[.int .i64 v.op,.string v.kind,.string v.name,.int .i64 v.seen,.string v.text,.string v.hold] 40)
 have hk2:=hin.kr.cell 2 Zb
 simp only [vec,List.getD_cons_zero,List.getD_cons_succ] at hk2
 clear hin hop hP hk2
 go_enter Tryz.func43,Tryz.ntmps43
 go_wp2_with fail
 refine wiReg1 _ _ _ _ _ _ _ _ _ _ _ _ _ _ _ _ _ _ _ _ _ _ _ _ _ _ _ _ _ _ _ _ _ _ _ _ _ _ _ _ _ _ _ _ _ (fun _=>undef) K w.1.size B v a1 c1 _ Zc ((HIN.out.kr.below hB zK).cell 2 Zb) (RowF.new (w:=w) (l:=[.int .i64 v.op,.string v.kind,.string v.name,.int .i64 v.seen,.string v.text,.string v.hold]) (t:=40) Zbv) ((HIN.out.objs.below hB Zbt).up hB.size) HIN.out.ok _ ?_
 intro t X hbX
 have rw0:=RowF.new (w:=w) (l:=[.int .i64 v.op,.string v.kind,.string v.name,.int .i64 v.seen,.string v.text,.string v.hold]) (t:=40) hbX
 have hbX':=hB.trans (hbX.mono Zd)
 have zX:w.1.size<X.1.size:=rw0.lt
 rw [HOP.out] at rw0
 have p0:=rw0.cell 0 Ze
 have p1:=rw0.cell 1 Ze
 have p2:=rw0.cell 2 Ze
 have p3:=rw0.cell 3 Ze
 have p4:=rw0.cell 4 Ze
 have p5:=rw0.cell 5 Ze
 simp only [vec,List.getD_cons_zero,List.getD_cons_succ] at p0 p1 p2 p3 p4 p5
 have RW0:=hid rw0
 have HBX:=hid hbX'
 clear hbX hbX' rw0 hB
 go_wp2_with fail
 have B2:=fun o1 o2=>HBX.out.trans (((below_alloc X o1).trans ((below_alloc (X.alloc o1) o2).mono Zd)).mono (Nat.le_of_lt zX))
 refine (op1_any (HIN.out.dk (B2 _ _) (desk_new K B v 1 HOP.out.symm) Zc) HOP.out).mono ?_
 rintro e w9 ⟨hb9,hpost⟩
 have z9:=hb9.size
 have DK9:=hid (fun (o:Obj)=>(HIN.out.dk (B2 _ _) (desk_new K B v 1 HOP.out.symm) Zc).grow (hb9.trans ((below_alloc w9 o).mono hb9.size)))
 have zD9:w.1.size≤X.1.size:=Nat.le_of_lt zX
 have HB9:=hid ((B2 _ _).trans (hb9.mono Zc))
 have r9:=(RW0.out.below (((below_alloc X _).trans ((below_alloc (X.alloc _) _).mono Zd)).trans (hb9.mono Zc)) RW0.out.lt)
 have kr9:=HIN.out.kr.below HB9.out zK
 have zK9:K<w9.1.size:=kr9.lt
 have zW9:w.1.size<w9.1.size:=r9.lt
 clear p0 p1 p2 p3 p4 p5
 have p0:=r9.cell 0 Ze
 have p1:=r9.cell 1 Ze
 have p2:=r9.cell 2 Ze
 have p3:=r9.cell 3 Ze
 have p4:=r9.cell 4 Ze
 have p5:=r9.cell 5 Ze
 simp only [vec,List.getD_cons_zero,List.getD_cons_succ] at p0 p1 p2 p3 p4 p5
 have kk0:=kr9.cell 0 Zb
 simp only [vec,List.getD_cons_zero] at kk0
 clear hb9 B2 r9 kr9
 rcases hpost with ⟨hc,rfl⟩|⟨hc,E,hE,rfl,hE2,hE3⟩
 ·have hcc:wCode B v=oCode B v:=if_neg hc
  have HFIN:=hid (show ∀ w',Below w.1.size w w'→IntoP B v L Pst w (.returned (.iface 146 (.agg #[.int .i64 1,.string v.kind,.string v.name,.int .i64 v.seen,.string v.text,.string v.hold,.iface 90 (.agg #[.int .i64 (oCode B v),.int .i64 (oVer B v)])]))) w' from fun w' hb=>Or.inl ⟨by rw [hcc];exact hc,by rw [hcc,HOP.out],hb⟩)
  clear hc hcc
  exact apP271
 ·have hov:oVer B v=0:=if_neg Zbq
  by_cases hm:B.now=1000000
  ·have hcc:wCode B v=8:=by unfold wCode;rw [if_pos hc,if_pos Za]
   have HFIN:=hid (show ∀ w',Below w.1.size w w'→IntoP B v L Pst w (.returned (.iface 146 (.agg #[.int .i64 1,.string v.kind,.string v.name,.int .i64 v.seen,.string v.text,.string v.hold,.iface 90 (.agg #[.int .i64 8,.int .i64 0])]))) w' from fun w' hb=>Or.inl ⟨by rw [hcc];decide,by rw [hcc,HOP.out,hov],hb⟩)
   exact apP272
  ·exact apP270
theorem into_2 (K g:Nat) (B:Bk) (v:Wr) (L:List EO) (a1:Option Addr) (c1:Nat) (k1 k3 k4:Value) (Pst:EO→World→World→Prop) (w:World) (hin:WS w K g B v L a1 c1 k1 k3 k4) (hop:v.op=2)
  (hP:∀ D X E,Below w.1.size w X→DkIn X D K g B v L a1 c1 (plW B v) (foB B v)→w.1.size≤D→EOk B v L w X E→wCode B v=0→Calls Tryz.prog 102 #[.pointer (some ⟨D,0,none⟩),obV E] X fun e w'=>e=.returned (.tuple #[])∧Pst E X w') :
  Calls Tryz.prog 43 #[.pointer (some ⟨K,0,none⟩),.agg #[.int .i64 v.op,.string v.kind,.string v.name,.int .i64 v.seen,.string v.text,.string v.hold]] w (IntoP B v L Pst w):=by
 have HIN:=hid hin
 have HOP:=hid hop
 have HP:=hid hP
 have zK:=hin.kr.lt
 have hB:=below_alloc w (.cells #[.int .i64 v.op,.string v.kind,.string v.name,.int .i64 v.seen,.string v.text,.string v.hold] 40)
 have hk2:=hin.kr.cell 2 Zb
 simp only [vec,List.getD_cons_zero,List.getD_cons_succ] at hk2
 clear hin hop hP hk2
 go_enter Tryz.func43,Tryz.ntmps43
 go_wp2_with fail
 refine wiReg1 _ _ _ _ _ _ _ _ _ _ _ _ _ _ _ _ _ _ _ _ _ _ _ _ _ _ _ _ _ _ _ _ _ _ _ _ _ _ _ _ _ _ _ _ _ (fun _=>undef) K w.1.size B v a1 c1 _ Zc ((HIN.out.kr.below hB zK).cell 2 Zb) (RowF.new (w:=w) (l:=[.int .i64 v.op,.string v.kind,.string v.name,.int .i64 v.seen,.string v.text,.string v.hold]) (t:=40) Zbv) ((HIN.out.objs.below hB Zbt).up hB.size) HIN.out.ok _ ?_
 intro t X hbX
 have rw0:=RowF.new (w:=w) (l:=[.int .i64 v.op,.string v.kind,.string v.name,.int .i64 v.seen,.string v.text,.string v.hold]) (t:=40) hbX
 have hbX':=hB.trans (hbX.mono Zd)
 have zX:w.1.size<X.1.size:=rw0.lt
 rw [HOP.out] at rw0
 have p0:=rw0.cell 0 Ze
 have p1:=rw0.cell 1 Ze
 have p2:=rw0.cell 2 Ze
 have p3:=rw0.cell 3 Ze
 have p4:=rw0.cell 4 Ze
 have p5:=rw0.cell 5 Ze
 simp only [vec,List.getD_cons_zero,List.getD_cons_succ] at p0 p1 p2 p3 p4 p5
 have RW0:=hid rw0
 have HBX:=hid hbX'
 clear hbX hbX' rw0 hB
 go_wp2_with fail
 have B2:=fun o1 o2=>HBX.out.trans (((below_alloc X o1).trans ((below_alloc (X.alloc o1) o2).mono Zd)).mono (Nat.le_of_lt zX))
 refine (op2_any (HIN.out.dk (B2 _ _) (desk_new K B v 2 HOP.out.symm) Zc) HOP.out).mono ?_
 rintro e w9 ⟨hb9,hpost⟩
 have z9:=hb9.size
 have DK9:=hid (fun (o:Obj)=>(HIN.out.dk (B2 _ _) (desk_new K B v 2 HOP.out.symm) Zc).grow (hb9.trans ((below_alloc w9 o).mono hb9.size)))
 have zD9:w.1.size≤X.1.size:=Nat.le_of_lt zX
 have HB9:=hid ((B2 _ _).trans (hb9.mono Zc))
 have r9:=(RW0.out.below (((below_alloc X _).trans ((below_alloc (X.alloc _) _).mono Zd)).trans (hb9.mono Zc)) RW0.out.lt)
 have kr9:=HIN.out.kr.below HB9.out zK
 have zK9:K<w9.1.size:=kr9.lt
 have zW9:w.1.size<w9.1.size:=r9.lt
 clear p0 p1 p2 p3 p4 p5
 have p0:=r9.cell 0 Ze
 have p1:=r9.cell 1 Ze
 have p2:=r9.cell 2 Ze
 have p3:=r9.cell 3 Ze
 have p4:=r9.cell 4 Ze
 have p5:=r9.cell 5 Ze
 simp only [vec,List.getD_cons_zero,List.getD_cons_succ] at p0 p1 p2 p3 p4 p5
 have kk0:=kr9.cell 0 Zb
 simp only [vec,List.getD_cons_zero] at kk0
 clear hb9 B2 r9 kr9
 rcases hpost with ⟨hc,rfl⟩|⟨hc,E,hE,rfl,hE2,hE3⟩
 ·have hcc:wCode B v=oCode B v:=if_neg hc
  have HFIN:=hid (show ∀ w',Below w.1.size w w'→IntoP B v L Pst w (.returned (.iface 146 (.agg #[.int .i64 2,.string v.kind,.string v.name,.int .i64 v.seen,.string v.text,.string v.hold,.iface 90 (.agg #[.int .i64 (oCode B v),.int .i64 (oVer B v)])]))) w' from fun w' hb=>Or.inl ⟨by rw [hcc];exact hc,by rw [hcc,HOP.out],hb⟩)
  clear hc hcc
  exact apP271
 ·have hov:oVer B v=0:=if_neg Zbq
  by_cases hm:B.now=1000000
  ·have hcc:wCode B v=8:=by unfold wCode;rw [if_pos hc,if_pos Za]
   have HFIN:=hid (show ∀ w',Below w.1.size w w'→IntoP B v L Pst w (.returned (.iface 146 (.agg #[.int .i64 2,.string v.kind,.string v.name,.int .i64 v.seen,.string v.text,.string v.hold,.iface 90 (.agg #[.int .i64 8,.int .i64 0])]))) w' from fun w' hb=>Or.inl ⟨by rw [hcc];decide,by rw [hcc,HOP.out,hov],hb⟩)
   exact apP272
  ·exact apP270
theorem into_3 (K g:Nat) (B:Bk) (v:Wr) (L:List EO) (a1:Option Addr) (c1:Nat) (k1 k3 k4:Value) (Pst:EO→World→World→Prop) (w:World) (hin:WS w K g B v L a1 c1 k1 k3 k4) (hop:v.op=3)
  (hP:∀ D X E,Below w.1.size w X→DkIn X D K g B v L a1 c1 (plW B v) (foB B v)→w.1.size≤D→EOk B v L w X E→wCode B v=0→Calls Tryz.prog 102 #[.pointer (some ⟨D,0,none⟩),obV E] X fun e w'=>e=.returned (.tuple #[])∧Pst E X w') :
  Calls Tryz.prog 43 #[.pointer (some ⟨K,0,none⟩),.agg #[.int .i64 v.op,.string v.kind,.string v.name,.int .i64 v.seen,.string v.text,.string v.hold]] w (IntoP B v L Pst w):=by
 have HIN:=hid hin
 have HOP:=hid hop
 have HP:=hid hP
 have zK:=hin.kr.lt
 have hB:=below_alloc w (.cells #[.int .i64 v.op,.string v.kind,.string v.name,.int .i64 v.seen,.string v.text,.string v.hold] 40)
 have hk2:=hin.kr.cell 2 Zb
 simp only [vec,List.getD_cons_zero,List.getD_cons_succ] at hk2
 clear hin hop hP hk2
 go_enter Tryz.func43,Tryz.ntmps43
 go_wp2_with fail
 refine wiReg1 _ _ _ _ _ _ _ _ _ _ _ _ _ _ _ _ _ _ _ _ _ _ _ _ _ _ _ _ _ _ _ _ _ _ _ _ _ _ _ _ _ _ _ _ _ (fun _=>undef) K w.1.size B v a1 c1 _ Zc ((HIN.out.kr.below hB zK).cell 2 Zb) (RowF.new (w:=w) (l:=[.int .i64 v.op,.string v.kind,.string v.name,.int .i64 v.seen,.string v.text,.string v.hold]) (t:=40) Zbv) ((HIN.out.objs.below hB Zbt).up hB.size) HIN.out.ok _ ?_
 intro t X hbX
 have rw0:=RowF.new (w:=w) (l:=[.int .i64 v.op,.string v.kind,.string v.name,.int .i64 v.seen,.string v.text,.string v.hold]) (t:=40) hbX
 have hbX':=hB.trans (hbX.mono Zd)
 have zX:w.1.size<X.1.size:=rw0.lt
 rw [HOP.out] at rw0
 have p0:=rw0.cell 0 Ze
 have p1:=rw0.cell 1 Ze
 have p2:=rw0.cell 2 Ze
 have p3:=rw0.cell 3 Ze
 have p4:=rw0.cell 4 Ze
 have p5:=rw0.cell 5 Ze
 simp only [vec,List.getD_cons_zero,List.getD_cons_succ] at p0 p1 p2 p3 p4 p5
 have RW0:=hid rw0
 have HBX:=hid hbX'
 clear hbX hbX' rw0 hB
 go_wp2_with fail
 have B2:=fun o1 o2=>HBX.out.trans (((below_alloc X o1).trans ((below_alloc (X.alloc o1) o2).mono Zd)).mono (Nat.le_of_lt zX))
 refine (op3_any (HIN.out.dk (B2 _ _) (desk_new K B v 3 HOP.out.symm) Zc) HOP.out).mono ?_
 rintro e w9 ⟨hb9,hpost⟩
 have z9:=hb9.size
 have DK9:=hid (fun (o:Obj)=>(HIN.out.dk (B2 _ _) (desk_new K B v 3 HOP.out.symm) Zc).grow (hb9.trans ((below_alloc w9 o).mono hb9.size)))
 have zD9:w.1.size≤X.1.size:=Nat.le_of_lt zX
 have HB9:=hid ((B2 _ _).trans (hb9.mono Zc))
 have r9:=(RW0.out.below (((below_alloc X _).trans ((below_alloc (X.alloc _) _).mono Zd)).trans (hb9.mono Zc)) RW0.out.lt)
 have kr9:=HIN.out.kr.below HB9.out zK
 have zK9:K<w9.1.size:=kr9.lt
 have zW9:w.1.size<w9.1.size:=r9.lt
 clear p0 p1 p2 p3 p4 p5
 have p0:=r9.cell 0 Ze
 have p1:=r9.cell 1 Ze
 have p2:=r9.cell 2 Ze
 have p3:=r9.cell 3 Ze
 have p4:=r9.cell 4 Ze
 have p5:=r9.cell 5 Ze
 simp only [vec,List.getD_cons_zero,List.getD_cons_succ] at p0 p1 p2 p3 p4 p5
 have kk0:=kr9.cell 0 Zb
 simp only [vec,List.getD_cons_zero] at kk0
 clear hb9 B2 r9 kr9
 rcases hpost with ⟨hc,rfl⟩|⟨hc,E,hE,rfl,hE2,hE3⟩
 ·have hcc:wCode B v=oCode B v:=if_neg hc
  have HFIN:=hid (show ∀ w',Below w.1.size w w'→IntoP B v L Pst w (.returned (.iface 146 (.agg #[.int .i64 3,.string v.kind,.string v.name,.int .i64 v.seen,.string v.text,.string v.hold,.iface 90 (.agg #[.int .i64 (oCode B v),.int .i64 (oVer B v)])]))) w' from fun w' hb=>Or.inl ⟨by rw [hcc];exact hc,by rw [hcc,HOP.out],hb⟩)
  clear hc hcc
  exact apP271
 ·have hov:oVer B v=0:=if_neg Zbq
  by_cases hm:B.now=1000000
  ·have hcc:wCode B v=8:=by unfold wCode;rw [if_pos hc,if_pos Za]
   have HFIN:=hid (show ∀ w',Below w.1.size w w'→IntoP B v L Pst w (.returned (.iface 146 (.agg #[.int .i64 3,.string v.kind,.string v.name,.int .i64 v.seen,.string v.text,.string v.hold,.iface 90 (.agg #[.int .i64 8,.int .i64 0])]))) w' from fun w' hb=>Or.inl ⟨by rw [hcc];decide,by rw [hcc,HOP.out,hov],hb⟩)
   exact apP272
  ·exact apP270
theorem into_4 (K g:Nat) (B:Bk) (v:Wr) (L:List EO) (a1:Option Addr) (c1:Nat) (k1 k3 k4:Value) (Pst:EO→World→World→Prop) (w:World) (hin:WS w K g B v L a1 c1 k1 k3 k4) (hop:v.op=4)
  (hP:∀ D X E,Below w.1.size w X→DkIn X D K g B v L a1 c1 (plW B v) (foB B v)→w.1.size≤D→EOk B v L w X E→wCode B v=0→Calls Tryz.prog 102 #[.pointer (some ⟨D,0,none⟩),obV E] X fun e w'=>e=.returned (.tuple #[])∧Pst E X w') :
  Calls Tryz.prog 43 #[.pointer (some ⟨K,0,none⟩),.agg #[.int .i64 v.op,.string v.kind,.string v.name,.int .i64 v.seen,.string v.text,.string v.hold]] w (IntoP B v L Pst w):=by
 have HIN:=hid hin
 have HOP:=hid hop
 have HP:=hid hP
 have zK:=hin.kr.lt
 have hB:=below_alloc w (.cells #[.int .i64 v.op,.string v.kind,.string v.name,.int .i64 v.seen,.string v.text,.string v.hold] 40)
 have hk2:=hin.kr.cell 2 Zb
 simp only [vec,List.getD_cons_zero,List.getD_cons_succ] at hk2
 clear hin hop hP hk2
 go_enter Tryz.func43,Tryz.ntmps43
 go_wp2_with fail
 refine wiReg1 _ _ _ _ _ _ _ _ _ _ _ _ _ _ _ _ _ _ _ _ _ _ _ _ _ _ _ _ _ _ _ _ _ _ _ _ _ _ _ _ _ _ _ _ _ (fun _=>undef) K w.1.size B v a1 c1 _ Zc ((HIN.out.kr.below hB zK).cell 2 Zb) (RowF.new (w:=w) (l:=[.int .i64 v.op,.string v.kind,.string v.name,.int .i64 v.seen,.string v.text,.string v.hold]) (t:=40) Zbv) ((HIN.out.objs.below hB Zbt).up hB.size) HIN.out.ok _ ?_
 intro t X hbX
 have rw0:=RowF.new (w:=w) (l:=[.int .i64 v.op,.string v.kind,.string v.name,.int .i64 v.seen,.string v.text,.string v.hold]) (t:=40) hbX
 have hbX':=hB.trans (hbX.mono Zd)
 have zX:w.1.size<X.1.size:=rw0.lt
 rw [HOP.out] at rw0
 have p0:=rw0.cell 0 Ze
 have p1:=rw0.cell 1 Ze
 have p2:=rw0.cell 2 Ze
 have p3:=rw0.cell 3 Ze
 have p4:=rw0.cell 4 Ze
 have p5:=rw0.cell 5 Ze
 simp only [vec,List.getD_cons_zero,List.getD_cons_succ] at p0 p1 p2 p3 p4 p5
 have RW0:=hid rw0
 have HBX:=hid hbX'
 clear hbX hbX' rw0 hB
 go_wp2_with fail
 have B2:=fun o1 o2=>HBX.out.trans (((below_alloc X o1).trans ((below_alloc (X.alloc o1) o2).mono Zd)).mono (Nat.le_of_lt zX))
 refine (op4_any (HIN.out.dk (B2 _ _) (desk_new K B v 4 HOP.out.symm) Zc) HOP.out).mono ?_
 rintro e w9 ⟨hb9,hpost⟩
 have z9:=hb9.size
 have DK9:=hid (fun (o:Obj)=>(HIN.out.dk (B2 _ _) (desk_new K B v 4 HOP.out.symm) Zc).grow (hb9.trans ((below_alloc w9 o).mono hb9.size)))
 have zD9:w.1.size≤X.1.size:=Nat.le_of_lt zX
 have HB9:=hid ((B2 _ _).trans (hb9.mono Zc))
 have r9:=(RW0.out.below (((below_alloc X _).trans ((below_alloc (X.alloc _) _).mono Zd)).trans (hb9.mono Zc)) RW0.out.lt)
 have kr9:=HIN.out.kr.below HB9.out zK
 have zK9:K<w9.1.size:=kr9.lt
 have zW9:w.1.size<w9.1.size:=r9.lt
 clear p0 p1 p2 p3 p4 p5
 have p0:=r9.cell 0 Ze
 have p1:=r9.cell 1 Ze
 have p2:=r9.cell 2 Ze
 have p3:=r9.cell 3 Ze
 have p4:=r9.cell 4 Ze
 have p5:=r9.cell 5 Ze
 simp only [vec,List.getD_cons_zero,List.getD_cons_succ] at p0 p1 p2 p3 p4 p5
 have kk0:=kr9.cell 0 Zb
 simp only [vec,List.getD_cons_zero] at kk0
 clear hb9 B2 r9 kr9
 rcases hpost with ⟨hc,rfl⟩|⟨hc,E,hE,rfl,hE2,hE3⟩
 ·have hcc:wCode B v=oCode B v:=if_neg hc
  have HFIN:=hid (show ∀ w',Below w.1.size w w'→IntoP B v L Pst w (.returned (.iface 146 (.agg #[.int .i64 4,.string v.kind,.string v.name,.int .i64 v.seen,.string v.text,.string v.hold,.iface 90 (.agg #[.int .i64 (oCode B v),.int .i64 (oVer B v)])]))) w' from fun w' hb=>Or.inl ⟨by rw [hcc];exact hc,by rw [hcc,HOP.out],hb⟩)
  clear hc hcc
  exact apP271
 ·have hov:oVer B v=0:=if_neg Zbq
  by_cases hm:B.now=1000000
  ·have hcc:wCode B v=8:=by unfold wCode;rw [if_pos hc,if_pos Za]
   have HFIN:=hid (show ∀ w',Below w.1.size w w'→IntoP B v L Pst w (.returned (.iface 146 (.agg #[.int .i64 4,.string v.kind,.string v.name,.int .i64 v.seen,.string v.text,.string v.hold,.iface 90 (.agg #[.int .i64 8,.int .i64 0])]))) w' from fun w' hb=>Or.inl ⟨by rw [hcc];decide,by rw [hcc,HOP.out,hov],hb⟩)
   exact apP272
  ·exact apP270
theorem into_5 (K g:Nat) (B:Bk) (v:Wr) (L:List EO) (a1:Option Addr) (c1:Nat) (k1 k3 k4:Value) (Pst:EO→World→World→Prop) (w:World) (hin:WS w K g B v L a1 c1 k1 k3 k4) (hop:v.op=5)
  (hP:∀ D X E,Below w.1.size w X→DkIn X D K g B v L a1 c1 (plW B v) (foB B v)→w.1.size≤D→EOk B v L w X E→wCode B v=0→Calls Tryz.prog 102 #[.pointer (some ⟨D,0,none⟩),obV E] X fun e w'=>e=.returned (.tuple #[])∧Pst E X w') :
  Calls Tryz.prog 43 #[.pointer (some ⟨K,0,none⟩),.agg #[.int .i64 v.op,.string v.kind,.string v.name,.int .i64 v.seen,.string v.text,.string v.hold]] w (IntoP B v L Pst w):=by
 have HIN:=hid hin
 have HOP:=hid hop
 have HP:=hid hP
 have zK:=hin.kr.lt
 have hB:=below_alloc w (.cells #[.int .i64 v.op,.string v.kind,.string v.name,.int .i64 v.seen,.string v.text,.string v.hold] 40)
 have hk2:=hin.kr.cell 2 Zb
 simp only [vec,List.getD_cons_zero,List.getD_cons_succ] at hk2
 clear hin hop hP hk2
 go_enter Tryz.func43,Tryz.ntmps43
 go_wp2_with fail
 refine wiReg1 _ _ _ _ _ _ _ _ _ _ _ _ _ _ _ _ _ _ _ _ _ _ _ _ _ _ _ _ _ _ _ _ _ _ _ _ _ _ _ _ _ _ _ _ _ (fun _=>undef) K w.1.size B v a1 c1 _ Zc ((HIN.out.kr.below hB zK).cell 2 Zb) (RowF.new (w:=w) (l:=[.int .i64 v.op,.string v.kind,.string v.name,.int .i64 v.seen,.string v.text,.string v.hold]) (t:=40) Zbv) ((HIN.out.objs.below hB Zbt).up hB.size) HIN.out.ok _ ?_
 intro t X hbX
 have rw0:=RowF.new (w:=w) (l:=[.int .i64 v.op,.string v.kind,.string v.name,.int .i64 v.seen,.string v.text,.string v.hold]) (t:=40) hbX
 have hbX':=hB.trans (hbX.mono Zd)
 have zX:w.1.size<X.1.size:=rw0.lt
 rw [HOP.out] at rw0
 have p0:=rw0.cell 0 Ze
 have p1:=rw0.cell 1 Ze
 have p2:=rw0.cell 2 Ze
 have p3:=rw0.cell 3 Ze
 have p4:=rw0.cell 4 Ze
 have p5:=rw0.cell 5 Ze
 simp only [vec,List.getD_cons_zero,List.getD_cons_succ] at p0 p1 p2 p3 p4 p5
 have RW0:=hid rw0
 have HBX:=hid hbX'
 clear hbX hbX' rw0 hB
 go_wp2_with fail
 have B2:=fun o1 o2=>HBX.out.trans (((below_alloc X o1).trans ((below_alloc (X.alloc o1) o2).mono Zd)).mono (Nat.le_of_lt zX))
 refine (op5_any (HIN.out.dk (B2 _ _) (desk_new K B v 5 HOP.out.symm) Zc) HOP.out).mono ?_
 rintro e w9 ⟨hb9,hpost⟩
 have z9:=hb9.size
 have DK9:=hid (fun (o:Obj)=>(HIN.out.dk (B2 _ _) (desk_new K B v 5 HOP.out.symm) Zc).grow (hb9.trans ((below_alloc w9 o).mono hb9.size)))
 have zD9:w.1.size≤X.1.size:=Nat.le_of_lt zX
 have HB9:=hid ((B2 _ _).trans (hb9.mono Zc))
 have r9:=(RW0.out.below (((below_alloc X _).trans ((below_alloc (X.alloc _) _).mono Zd)).trans (hb9.mono Zc)) RW0.out.lt)
 have kr9:=HIN.out.kr.below HB9.out zK
 have zK9:K<w9.1.size:=kr9.lt
 have zW9:w.1.size<w9.1.size:=r9.lt
 clear p0 p1 p2 p3 p4 p5
 have p0:=r9.cell 0 Ze
 have p1:=r9.cell 1 Ze
 have p2:=r9.cell 2 Ze
 have p3:=r9.cell 3 Ze
 have p4:=r9.cell 4 Ze
 have p5:=r9.cell 5 Ze
 simp only [vec,List.getD_cons_zero,List.getD_cons_succ] at p0 p1 p2 p3 p4 p5
 have kk0:=kr9.cell 0 Zb
 simp only [vec,List.getD_cons_zero] at kk0
 clear hb9 B2 r9 kr9
 rcases hpost with ⟨hc,rfl⟩|⟨hc,E,hE,rfl,hE2,hE3⟩
 ·have hcc:wCode B v=oCode B v:=if_neg hc
  have HFIN:=hid (show ∀ w',Below w.1.size w w'→IntoP B v L Pst w (.returned (.iface 146 (.agg #[.int .i64 5,.string v.kind,.string v.name,.int .i64 v.seen,.string v.text,.string v.hold,.iface 90 (.agg #[.int .i64 (oCode B v),.int .i64 (oVer B v)])]))) w' from fun w' hb=>Or.inl ⟨by rw [hcc];exact hc,by rw [hcc,HOP.out],hb⟩)
  clear hc hcc
  exact apP271
 ·have hov:oVer B v=0:=if_neg Zbq
  by_cases hm:B.now=1000000
  ·have hcc:wCode B v=8:=by unfold wCode;rw [if_pos hc,if_pos Za]
   have HFIN:=hid (show ∀ w',Below w.1.size w w'→IntoP B v L Pst w (.returned (.iface 146 (.agg #[.int .i64 5,.string v.kind,.string v.name,.int .i64 v.seen,.string v.text,.string v.hold,.iface 90 (.agg #[.int .i64 8,.int .i64 0])]))) w' from fun w' hb=>Or.inl ⟨by rw [hcc];decide,by rw [hcc,HOP.out,hov],hb⟩)
   exact apP272
  ·exact apP270
end Go.Proofs.YtllmmkchokkaaaaGreatDoor
namespace Go.Proofs.YtllmmkchokkaaaaGreatDoor
open Go.RowKit Go.Maps
theorem cellsE_take (L:List EO) (k:Nat) (hk:k≤L.length):(cellsE L).take (k*7)=cellsE (L.take k):=by
 have h:cellsE L=cellsE (L.take k) ++ cellsE (L.drop k):=by rw [←cellsE_append,List.take_append_drop]
 rw [h,List.take_append_of_le_length (by rw [cellsE_len,List.length_take];omega),List.take_of_length_le (by rw [cellsE_len,List.length_take];omega)]
theorem cellsE_drop (L:List EO) (k:Nat) (hk:k≤L.length):(cellsE L).drop (k*7)=cellsE (L.drop k):=by
 have h:cellsE L=cellsE (L.take k) ++ cellsE (L.drop k):=by rw [←cellsE_append,List.take_append_drop]
 have hl:(cellsE (L.take k)).length=k*7:=by rw [cellsE_len,List.length_take];omega
 rw [h,←hl,List.drop_left]
theorem remL_E (L:List EO) (k:Nat) (hk:k<L.length):remL (cellsE L) k 7=cellsE (L.eraseIdx k):=by
 unfold remL
 rw [cellsE_take L k Za,cellsE_drop L (k+1) hk,←cellsE_append,List.eraseIdx_eq_take_drop_succ]
theorem insL_E (L:List EO) (k:Nat) (e:EO) (hk:k≤L.length):insL (cellsE L) (k*7) (encE e)=cellsE (L.take k ++ e::L.drop k):=by
 unfold insL
 rw [cellsE_take L k hk,cellsE_drop L k hk,List.append_assoc,cellsE_append]
 rfl
theorem rowC_E {w:World} {ad:Option Addr} {g cap:Nat} {L:List EO} (h:RowS w ad g cap L):RowC w 7 ad g 0 L.length cap (cellsE L):=
 ⟨cellsE_len L,cellsE_one L,by
  rcases h with ⟨h1,h2,h3⟩|⟨h1,h2,h3⟩
  ·exact Or.inl ⟨h1,by rw [h2];rfl,h3⟩
  ·exact Or.inr ⟨h1,h3,h2.lt,fun t u hu=>by rw [Nat.zero_add];exact h2.cells hu⟩⟩
def eoV (B:Bk) (E:EO):EO:=⟨⟨E.ob.kind,E.ob.name,B.now+1,E.ob.born,E.ob.text,E.ob.ending,E.ob.hn,E.ob.hs⟩,E.A,E.C,E.hb⟩
def L1 (B:Bk) (v:Wr) (L:List EO):List EO:=if foB B v then L.eraseIdx (plW B v) else L
def L2 (B:Bk) (v:Wr) (L:List EO) (E:EO):List EO:=if wGone B v then L1 B v L else (L1 B v L).take (plW B v) ++ eoV B E::(L1 B v L).drop (plW B v)
theorem stand_ver (x:Ob) (ve:Int):standB ⟨x.kind,x.name,ve,x.born,x.text,x.ending,x.hn,x.hs⟩=standB x:=rfl
theorem opOb_stand (B:Bk) (v:Wr) (a b:Int):standB (opOb B v a)=standB (opOb B v b):=by
 unfold opOb
 split
 ·rfl
 ·split
  ·rfl
  ·split
   ·rfl
   ·split<;>rfl
theorem gone_new {B:Bk} {v:Wr} (hf:fndIs B.os v.kind v.name B.on=false) (hc:wCode B v=0):wGone B v=false:=by
 have h0:oCode B v=0:=by
  by_cases h:oCode B v=0
  ·exact h
  ·unfold wCode at hc
   rw [if_neg h] at hc
   exact absurd hc h
 have h1:v.op=1:=by
  by_cases h:v.op=1
  ·exact h
  ·rw [(oc_none hf h).1] at h0
   cases h0
 unfold wGone wOb opOb
 rw [if_pos h1]
 rfl
def PstD (K:Nat) (B:Bk) (v:Wr) (L:List EO) (k1' k4:Value) (m:Nat) (ch:List Value) (E:EO) (X w':World):Prop:=
 PutR K E.ob B.now (wGone B v) k1' k4 (L2 B v L E).length m (cellsE (L2 B v L E)) ch X w'
theorem pst_of {w:World} {K g:Nat} {B:Bk} {v:Wr} {L:List EO} {a1:Option Addr} {c1:Nat} {k1 k1' k3 k4:Value} {m:Nat} {ch:List Value} (hin:WS w K g B v L a1 c1 k1 k3 k4) (hgK:¬g=K)
  (hkeep:∀ e ∈ L,∀ X,FrP (fun q=>q=K) w X→StrsIn X 0 X.1.size e.A e.ob.hn e.ob.hs)
  (TE:∀ (E:EO) (X0 X:World) (gn:Bool) (A':Option Addr) (C':Nat) (o:Value),Below w.1.size w X0→FrP (fun q=>q=K) X0 X→RowF X K 5 (vec [.int .i64 (B.now+1),k1,o,k3,k4])→Calls Tryz.prog 161 #[.pointer (some ⟨K,0,none⟩),.agg #[.int .i64 (B.now+1),.bool gn,.string E.ob.kind,.string E.ob.name,.int .i64 (B.now+1),.int .i64 E.ob.born,.string E.ob.text,.bool E.ob.ending,.slice A' E.ob.hn C']] X fun e w'=>e=.returned (.tuple #[])∧∃ a4 c4,w'.ownsRow X.1.size 120 9 (.slice a4 m c4) m (ch ++ [.int .i64 (B.now+1),.bool gn,.string E.ob.kind,.string E.ob.name,.int .i64 (B.now+1),.int .i64 E.ob.born,.string E.ob.text,.bool E.ob.ending,.slice A' E.ob.hn C'])∧RowF w' K 5 (vec [.int .i64 (B.now+1),k1',o,.slice a4 m c4,k4])∧FrP (fun q=>q=K) X w') :
  ∀ D X E,Below w.1.size w X→DkIn X D K g B v L a1 c1 (plW B v) (foB B v)→w.1.size≤D→EOk B v L w X E→wCode B v=0→Calls Tryz.prog 102 #[.pointer (some ⟨D,0,none⟩),obV E] X fun e w'=>e=.returned (.tuple #[])∧PstD K B v L k1' k4 m ch E X w':=by
 intro D X E hb hd hD hE hcode
 have hok:=hin.ok
 have hon:=hok.on
 have hlen:=hd.len
 have kr:=hin.kr.below hb hin.kr.lt
 have zK:=hin.kr.lt
 have hrow:=rowC_E hd.row
 rw [hlen] at hrow
 have hEhn:(E.ob.hn:Int)≤1000:=by
  rw [hE.1]
  have h5:∀ o:Ob,wOf B v=o→o.hn≤5:=fun o ho=>by
   rw [←ho]
   unfold wOf fndOb
   cases hx:fnd B.os v.kind v.name B.on with
   | none=>exact Nat.zero_le _
   | some i=>exact (hok.hold i (fnd_lt hx).1).1
  have h6:=h5 _ rfl
  unfold opOb
  split
  ·dsimp only
   split<;>omega
  ·split
   ·dsimp only;omega
   ·split
    ·dsimp only;omega
    ·split<;>(dsimp only;omega)
 have hA:∀ Y,FrP (fun q=>q=K) X Y→StrsIn Y 0 Y.1.size E.A E.ob.hn E.ob.hs:=fun Y hf=>by
  obtain ⟨h1,h2,h3⟩:=hE
  rcases h3 with ⟨q0,q1,q2,q3⟩|⟨q1,q2,q3,q4,q5⟩
  ·have hfo:foB B v=true:=by
    cases hx:foB B v with
    | true=>rfl
    | false=>
     rw [hx] at hd
     have:=(oc_none hd.no.2 Za).1
     unfold wCode at hcode
     rw [this,if_neg Zb] at hcode
     exact absurd hcode Zb
   rw [hfo] at hd
   have hy:=hd.yes
   have hm:=hd.cells.2.2.2
   have h4:=hkeep _ hm Y ((FrP.of_below hb).trans hf)
   rw [hd.at hy.1,←hy.2.1] at h4
   rw [q1,h1]
   have e1:(opOb B v (wOf B v).ver).hn=(wOf B v).hn∧(opOb B v (wOf B v).ver).hs=(wOf B v).hs:=by
    rcases q0 with q|q<;>simp [opOb,q]
   rw [e1.1,e1.2]
   exact h4
  ·exact (q5.frP hf (fun h0=>⟨Za,q4 h0⟩)).inW (fun h0=>Nat.lt_of_lt_of_le (q4 h0) hf.size)
 have hst:standB ⟨E.ob.kind,E.ob.name,B.now+1,E.ob.born,E.ob.text,E.ob.ending,E.ob.hn,E.ob.hs⟩ = !wGone B v:=by
  rw [stand_ver,hE.1]
  unfold wGone wOb
  rw [opOb_stand B v _ (B.now+1)]
  simp
 have hbK:¬g=K:=hgK
 cases hfo:foB B v with
 | true=>
  have hd':=hd
  rw [hfo] at hd'
  have hp:=hd'.yes.1
  cases hgn:wGone B v with
  | false=>
   rw [hgn] at hst
   refine (put_10 D K v (plW B v) E.ob E.A E.C B.now k1 k1' k3 k4 a1 g 0 B.on c1 (cellsE L) ch m X hd.hD Za hbK hd'.dk kr hrow hp Za hEhn hA hok.now0 hok.now1 hst (fun Y A' C' o hf hr=>TE E X Y false A' C' o hb hf hr)).mono ?_
   rintro e w' ⟨rfl,hP⟩
   refine ⟨rfl,?_⟩
   unfold PstD L2 L1
   rw [hgn,if_neg Zb,hfo,if_pos rfl]
   have hl1:(L.eraseIdx (plW B v)).length=B.on-1:=by rw [List.length_eraseIdx,if_pos Za,hlen]
   rw [remL_E L _ Za] at hP
   have h9:=insL_E (L.eraseIdx (plW B v)) (plW B v) (eoV B E) Za
   have hl2:((L.eraseIdx (plW B v)).take (plW B v) ++ eoV B E::(L.eraseIdx (plW B v)).drop (plW B v)).length=B.on-1+1:=by simp [hl1];omega
   rw [←h9,hl2]
   exact hP
  | true=>
   rw [hgn] at hst
   refine (put_11 D K v (plW B v) E.ob E.A E.C B.now k1 k1' k3 k4 a1 g 0 B.on c1 (cellsE L) ch m X hd.hD Za hbK hd'.dk kr hrow hp Za hEhn hA hok.now0 hok.now1 hst (fun Y A' C' o hf hr=>TE E X Y true A' C' o hb hf hr)).mono ?_
   rintro e w' ⟨rfl,hP⟩
   refine ⟨rfl,?_⟩
   unfold PstD L2 L1
   rw [hgn,if_pos rfl,hfo,if_pos rfl]
   have hl1:(L.eraseIdx (plW B v)).length=B.on-1:=by rw [List.length_eraseIdx,if_pos Za,hlen]
   rw [remL_E L _ Za] at hP
   rw [hl1]
   exact hP
 | false=>
  have hd':=hd
  rw [hfo] at hd'
  have hgn:=gone_new hd'.no.2 hcode
  rw [hgn] at hst
  refine (put_00 D K v (plW B v) E.ob E.A E.C B.now k1 k1' k3 k4 a1 g 0 B.on c1 (cellsE L) ch m X hd.hD Za hbK hd'.dk kr hrow hd.pa.1 Za hEhn hA hok.now0 hok.now1 hst (fun Y A' C' o hf hr=>TE E X Y false A' C' o hb hf hr)).mono ?_
  rintro e w' ⟨rfl,hP⟩
  refine ⟨rfl,?_⟩
  unfold PstD L2 L1
  rw [hgn,if_neg Zb,hfo,if_neg Zb]
  have hpl:=hd.pa.1
  have h9:=insL_E L (plW B v) (eoV B E) Za
  have hl2:(L.take (plW B v) ++ eoV B E::L.drop (plW B v)).length=B.on+1:=by simp [hlen];omega
  rw [←h9,hl2]
  exact hP
end Go.Proofs.YtllmmkchokkaaaaGreatDoor
namespace Go.Proofs.YtllmmkchokkaaaaGreatDoor
open Go.RowKit Go.Maps
/-! the objects behind a write,as a list -/
theorem opOb_ver (B:Bk) (v:Wr) (a b:Int):(⟨(opOb B v a).kind,(opOb B v a).name,b,(opOb B v a).born,(opOb B v a).text,(opOb B v a).ending,(opOb B v a).hn,(opOb B v a).hs⟩:Ob)=opOb B v b:=by
 unfold opOb
 split
 ·rfl
 ·split
  ·rfl
  ·split
   ·rfl
   ·split<;>rfl
theorem eoV_ob {B:Bk} {v:Wr} {E:EO} {a:Int} (h:E.ob=opOb B v a):(eoV B E).ob=wOb B v:=by
 unfold eoV
 dsimp only
 rw [h]
 exact opOb_ver B v a _
theorem filter_erase (p:EO→Bool):∀ (L:List EO) (k:Nat),k<L.length→(∀ j,j<L.length→p (ixE L j) = !decide (j=k))→L.filter p=L.eraseIdx k
 | [],k,h,_=>absurd h (Nat.not_lt_zero _)
 | e::L,0,_,h=>by
  have h0:p e=false:=by simpa [ixE] using h 0 Zd
  have h1:L.filter p=L:=List.filter_eq_self.2 fun f hf=>by
   obtain ⟨i,hi,rfl⟩:=mem_ixE hf
   have:=h (i+1) (by simpa using hi)
   simpa [ixE] using this
  rw [List.filter_cons_of_neg (by rw [h0];decide),h1]
  rfl
 | e::L,k+1,hk,h=>by
  have h0:p e=true:=by simpa [ixE] using h 0 Zd
  have h1:=filter_erase p L k (by simpa using hk) fun j hj=>by
   have:=h (j+1) (by simpa using hj)
   simpa [ixE] using this
  rw [List.filter_cons_of_pos h0,h1]
  rfl
theorem befB_irr {x z:Ob} (h1:x.kind.toList=z.kind.toList) (h2:x.name.toList=z.name.toList):befB x z=false:=by
 unfold befB
 rw [if_pos h1]
 exact ltB_irr h2
theorem wOb_key {B:Bk} {v:Wr} (hf:fndIs B.os v.kind v.name B.on=true∨v.op=1):(wOb B v).kind=v.kind∧(wOb B v).name=v.name:=by
 by_cases h1:v.op=1
 ·unfold wOb opOb
  rw [if_pos h1]
  exact ⟨rfl,rfl⟩
 ·have hf:fndIs B.os v.kind v.name B.on=true:=hf.resolve_right h1
  have hk:(wOf B v).kind=v.kind∧(wOf B v).name=v.name:=by
   unfold wOf fndOb
   unfold fndIs at hf
   cases hx:fnd B.os v.kind v.name B.on with
   | none=>rw [hx] at hf;cases hf
   | some i=>exact (fnd_lt hx).2
  unfold wOb opOb
  rw [if_neg h1]
  split
  ·exact hk
  ·split
   ·exact hk
   ·split<;>exact hk
theorem code_key {B:Bk} {v:Wr} (hc:wCode B v=0):fndIs B.os v.kind v.name B.on=true∨v.op=1:=by
 cases hf:fndIs B.os v.kind v.name B.on with
 | true=>exact Or.inl rfl
 | false=>
  refine Or.inr ?_
  by_cases h:v.op=1
  ·exact h
  ·have:=(oc_none hf h).1
   unfold wCode at hc
   rw [this,if_neg Zb] at hc
   exact absurd hc Zb
theorem L2_map {B:Bk} {v:Wr} {L:List EO} {E:EO} {a:Int} (hok:WOk B v) (hl:L.map EO.ob=tkL B.on B.os) (hE:E.ob=opOb B v a) (hc:wCode B v=0) :
  (L2 B v L E).map EO.ob=chgL (wOb B v) (wGone B v) (tkL B.on B.os):=by
 have hlen:L.length=B.on:=by
  have:=congrArg List.length hl
  simpa [tkL] using this
 have hat:∀ i,i<B.on→(ixE L i).ob=B.os i:=fun i hi=>by
  have h4:=ixE_map (L:=L) (i:=i) Za
  rw [hl] at h4
  simpa [tkL,hi] using h4.symm
 obtain ⟨k1,k2⟩:=wOb_key (code_key hc)
 have hpa:=place_at hok
 have hbef:∀ j,j<B.on→(befB (B.os j) (wOb B v)=true↔kcI B.os v.kind v.name j<0):=fun j _=>by
  rw [kc_is B.os v.kind v.name j (wOb B v) k1 k2]
  exact (keyI_neg7 _ _).symm
 have hoth:∀ j,j<B.on→otherK (wOb B v) (B.os j) = !decide (kcI B.os v.kind v.name j=0):=fun j _=>by
  unfold otherK
  rw [←kc_is B.os v.kind v.name j (wOb B v) k1 k2]
  simp
 have huniq:∀ i j,i<j→j<B.on→kcI B.os v.kind v.name i=0→¬kcI B.os v.kind v.name j=0:=fun i j h1 h2 h3 h4=>by
  have h5:=hok.asc i j h1 h2
  have e3:=(kc_nil _ _ _ _).1 h3
  have e4:=(kc_nil _ _ _ _).1 h4
  rw [befB_irr (by rw [e3.1,e4.1]) (by rw [e3.2,e4.2])] at h5
  cases h5
 have hfl:flK (wOb B v) L=L1 B v L:=by
  unfold flK L1
  cases hfo:foB B v with
  | true=>
   rw [if_pos rfl]
   unfold foB at hfo
   rw [Bool.and_eq_true] at hfo
   have h1:plW B v<B.on:=of_decide_eq_true hfo.1
   have h2:kcI B.os v.kind v.name (plW B v)=0:=of_decide_eq_true hfo.2
   refine filter_erase _ L _ Za fun j hj=>?_
   rw [hat j Za,hoth j Za]
   congr 1
   by_cases e:j=plW B v
   ·subst e
    simp [h2]
   ·have:¬kcI B.os v.kind v.name j=0:=fun h3=>by
     rcases Nat.lt_or_gt_of_ne e with q|q
     ·exact huniq j _ q h1 h3 h2
     ·exact huniq _ j q Za h2 h3
    simp [e,this]
  | false=>
   rw [if_neg Zb]
   refine List.filter_eq_self.2 fun f hf=>?_
   obtain ⟨i,hi,rfl⟩:=mem_ixE hf
   rw [hat i Za,hoth i Za]
   have:¬kcI B.os v.kind v.name i=0:=fun h3=>by
    have hfn:=fnd_place hok hpa
    unfold foB at hfo
    rw [if_neg (fun q=>by simp [q.1,q.2] at hfo)] at hfn
    have h4:=(kc_nil _ _ _ _).1 h3
    have h5:∃ k,fnd B.os v.kind v.name (i+1)=some k:=by
     cases hx:fnd B.os v.kind v.name i with
     | none=>exact ⟨i,fnd_hit hx h4⟩
     | some k=>exact ⟨k,fnd_some hx⟩
    obtain ⟨k,hk⟩:=h5
    rw [fnd_keep hk (show i+1≤B.on by omega)] at hfn
    cases hfn
   simp [this]
 have hpl:placeP (wOb B v) L (plW B v):=by
  refine ⟨by have:=hpa.1;omega,fun j hj=>?_,fun h=>?_⟩
  ·have h1:=hpa.1
   rw [hat j Za,hbef j Za]
   exact hpa.2.1 j hj
  ·rw [hat _ Za]
   cases hx:befB (B.os (plW B v)) (wOb B v) with
   | false=>rfl
   | true=>exact absurd ((hbef _ Za).1 hx) (hpa.2.2 _ Zbt Za)
 have hEv:=eoV_ob hE
 unfold L2 chgL
 rw [←hl]
 cases hg:wGone B v with
 | true=>
  rw [if_pos rfl,if_pos rfl,←hfl,flK_map]
 | false=>
  rw [if_neg Zb,if_neg Zb,←hfl]
  have h1:=put_list (o:=eoV B E) (L:=L) (k:=plW B v) (by rw [hEv];exact hpl)
  rw [hEv] at h1
  exact h1
theorem L2_len {B:Bk} {v:Wr} {L:List EO} {E:EO} {a:Int} (hok:WOk B v) (hl:L.map EO.ob=tkL B.on B.os) (hE:E.ob=opOb B v a) (hc:wCode B v=0) :
  (L2 B v L E).length=(wBk B v).on∧∀ i,i<(wBk B v).on→(ixE (L2 B v L E) i).ob=(wBk B v).os i:=by
 have h1:=L2_map hok hl hE hc
 rw [←putAll_list7] at h1
 have h2:(L2 B v L E).length=(wBk B v).on:=by
  have:=congrArg List.length h1
  simpa [tkL,wBk] using this
 refine ⟨h2,fun i hi=>?_⟩
 have h4:=ixE_map (L:=L2 B v L E) (i:=i) Za
 rw [h1] at h4
 have hi':i<(putAll B.on B.os (wOb B v) (wGone B v)).m:=hi
 simpa [tkL,hi',wBk] using h4.symm
end Go.Proofs.YtllmmkchokkaaaaGreatDoor
namespace Go.Proofs.YtllmmkchokkaaaaGreatDoor
open Go.RowKit Go.Maps
theorem rowE_own {w:World} {base g cap:Nat} {L:List EO} (h:w.ownsRow base 118 7 (.slice (some ⟨g,0,none⟩) L.length cap) L.length (cellsE L)) (hg:g<w.1.size):RowE w g L:=
 ⟨hg,fun j=>h.frozenAt j,fun i hi=>by
  have hc:∀ r,r<7→w.cell? ⟨g,i*7+r,none⟩=(encE (ixE L i))[r]?:=fun r hr=>by
   rw [h.cellAt (i*7+r) Za,cellsE_at L i r hi hr]
  exact ⟨hc 0 Zb,hc 1 Zb,hc 2 Zb,hc 3 Zb,hc 4 Zb,hc 5 Zb,hc 6 Zb⟩⟩
theorem own_at {w:World} {base e z n:Nat} {a:Option Addr} {c:Nat} {xs:List Value} (h:w.ownsRow base e z (.slice a n c) n xs):∃ g,(0<n→a=some ⟨g,0,none⟩∧Value.ownBlock (.slice a n c)=some g∧base≤g∧g<w.1.size):=by
 rcases h.2 with ⟨_,e2⟩|⟨g,cap',cur,e1,e2,e3,e4⟩
 ·exact ⟨0,fun h0=>by omega⟩
 ·cases e1
  exact ⟨g,fun _=>⟨rfl,rfl,e2,(Array.getElem?_eq_some_iff.1 e3).1⟩⟩
theorem atCh_one {c:Nat→Value} {i:Nat} {y:Ch} {A:Option Addr} {C:Nat} (h:atCh c i y A C):∀ r,r<9→(c (i*9+r)).oneCell'=true:=fun r hr=>by
 obtain ⟨h0,h1,h2,h3,h4,h5,h6,h7,h8⟩:=h
 rcases (show r=0∨r=1∨r=2∨r=3∨r=4∨r=5∨r=6∨r=7∨r=8 by omega) with rfl|rfl|rfl|rfl|rfl|rfl|rfl|rfl|rfl
 ·rw [Nat.add_zero,h0];rfl
 ·rw [h1];rfl
 ·rw [h2];rfl
 ·rw [h3];rfl
 ·rw [h4];rfl
 ·rw [h5];rfl
 ·rw [h6];rfl
 ·rw [h7];rfl
 ·rw [h8];rfl
theorem rowCells_idx {m:Nat} {c:Nat→Value} {j:Nat} (h:j<m):(rowCells m c)[j]? = some (c j):=by simp [rowCells,h]
def newC (B:Bk) (c:Nat→Value) (nw:List Value):Nat→Value:=fun j=>if j<(B.hn-wCut B)*9 then c (j+wCut B*9) else nw.getD (j-(B.hn-wCut B)*9) (.int .i64 0)
theorem newC_cells (B:Bk) (c:Nat→Value) (nw:List Value) (hl:nw.length=9) (hcut:wCut B≤B.hn):(rowCells (B.hn*9) c).drop (wCut B*9) ++ nw=rowCells ((B.hn-wCut B+1)*9) (newC B c nw):=by
 have hd:((rowCells (B.hn*9) c).drop (wCut B*9)).length=(B.hn-wCut B)*9:=by rw [List.length_drop,rowCells_len];omega
 refine List.ext_getElem? fun j=>?_
 rcases Nat.lt_or_ge j ((B.hn-wCut B)*9) with h|h
 ·rw [List.getElem?_append_left Za,List.getElem?_drop,rowCells_idx Za,rowCells_idx Za]
  unfold newC
  rw [if_pos h,Nat.add_comm]
 ·rw [List.getElem?_append_right Za,hd]
  rcases Nat.lt_or_ge j ((B.hn-wCut B+1)*9) with h2|h2
  ·rw [rowCells_idx h2]
   unfold newC
   rw [if_neg Za,List.getD_eq_getElem?_getD]
   have:j-(B.hn-wCut B)*9<nw.length:=Za
   rw [List.getElem?_eq_getElem this]
   rfl
  ·rw [List.getElem?_eq_none Za,List.getElem?_eq_none (by rw [rowCells_len];omega)]
theorem newC_old {B:Bk} {c:Nat→Value} {nw:List Value} {i:Nat} {y:Ch} {A:Option Addr} {C:Nat} (hi:i<B.hn-wCut B) (h:atCh c (i+wCut B) y A C):atCh (newC B c nw) i y A C:=by
 have e:∀ r,r<9→newC B c nw (i*9+r)=c ((i+wCut B)*9+r):=fun r hr=>by
  unfold newC
  rw [if_pos Za,show i*9+r+wCut B*9=(i+wCut B)*9+r by omega]
 obtain ⟨h0,h1,h2,h3,h4,h5,h6,h7,h8⟩:=h
 exact ⟨(e 0 Zb).trans h0,(e 1 Zb).trans h1,(e 2 Zb).trans h2,(e 3 Zb).trans h3,(e 4 Zb).trans h4,(e 5 Zb).trans h5,(e 6 Zb).trans h6,(e 7 Zb).trans h7,(e 8 Zb).trans h8⟩
theorem newC_new {B:Bk} {c:Nat→Value} {y:Ch} {A:Option Addr} {C:Nat} : atCh (newC B c [.int .i64 y.ver,.bool y.gone,.string y.ob.kind,.string y.ob.name,.int .i64 y.ob.ver,.int .i64 y.ob.born,.string y.ob.text,.bool y.ob.ending,.slice A y.ob.hn C]) (B.hn-wCut B) y A C:=by
 have e:∀ (nw:List Value) r,newC B c nw ((B.hn-wCut B)*9+r)=nw.getD r (.int .i64 0):=fun nw r=>by
  unfold newC
  rw [if_neg Za,show (B.hn-wCut B)*9+r-(B.hn-wCut B)*9=r by omega]
 exact ⟨e _ 0,e _ 1,e _ 2,e _ 3,e _ 4,e _ 5,e _ 6,e _ 7,e _ 8⟩
theorem ObsAt.congr {w:World} {ad:Option Addr} {g n m:Nat} {x y:Nat→Ob} {A:Nat→Option Addr} {C hb:Nat→Nat} (h:ObsAt w ad g n x A C hb) (hn:n=m) (he:∀ i,i<m→x i=y i):ObsAt w ad g m y A C hb:=by
 subst hn
 refine ⟨h.addr,fun h0=>?_,fun i hi=>by rw [←he i hi];exact h.hold i hi,fun i hi h0=>h.hlt i hi (by rw [he i hi];exact h0),⟨fun i hi h0=>h.ap.ne i hi (by rw [he i hi];exact h0),fun i j hi hj h1 h2 e=>h.ap.inj i j hi hj (by rw [he i hi];exact h1) (by rw [he j hj];exact h2) e⟩⟩
 obtain ⟨c,r,hat⟩:=h.row h0
 exact ⟨c,r,fun i hi=>by rw [←he i hi];exact hat i hi⟩
theorem wCut_le (B:Bk):wCut B≤B.hn:=by unfold wCut;split<;>omega
end Go.Proofs.YtllmmkchokkaaaaGreatDoor
namespace Go.Proofs.YtllmmkchokkaaaaGreatDoor
open Go.RowKit Go.Extern.Stop Go.Stop Go.Extern
theorem Tryz.valueOf149 (t:Addr) (w:World):(ReflectliteValue.unpack (.iface 149 (.pointer (some t)))).run Tryz.prog w
  = .ok (.agg #[.pointer (some ⟨5,149,none⟩),.pointer (some ⟨w.1.size,0,none⟩),.int .u64 150]) (w.alloc (.cells #[.pointer (some t)] 149)):=Zf
theorem Tryz.type149 (a:Addr) (w:World):(ReflectliteValue.methodAny (ReflectliteValue.valueError "reflectlite.Value.Type" 0) (fun t _ _ _=>ReflectliteType.toType t) #[.agg #[.pointer (some ⟨5,149,none⟩),.pointer (some a),.int .u64 150]]).run Tryz.prog w
  = .ok (.iface 233 (.agg #[.pointer (some ⟨5,149,none⟩)])) w:=Zf
theorem Tryz.methodKind (h:Value) (w:World):(Go.method 412 233 (.agg #[h]) "Kind").run Tryz.prog w=.ok (243,h) w:=Zf
theorem Tryz.kind149 (w:World):((ReflectliteType.abiMethod fun t=>(fun a:Nat=>Value.int IntKind.u8 (a:Int)) <$> Rtype.kind t) #[.pointer (some ⟨5,149,none⟩)]).run Tryz.prog w=.ok (.int .u8 22) w:=Zf
theorem Tryz.kind90 (w:World):((ReflectliteType.abiMethod fun t=>(fun a:Nat=>Value.int IntKind.u8 (a:Int)) <$> Rtype.kind t) #[.pointer (some ⟨5,90,none⟩)]).run Tryz.prog w=.ok (.int .u8 25) w:=Zf
theorem rlm (z:Sem Value) (f:TypeId→Addr→Nat→Nat→Sem Value) (v:Value) :
  ReflectliteValue.method z f #[v]=(do match ←ReflectliteValue.parts v with|none=>z|some (t,a,fl)=>f t a fl (fl % 32)):=rfl
theorem Tryz.parts149 (a:Addr) (w:World):(ReflectliteValue.parts (.agg #[.pointer (some ⟨5,149,none⟩),.pointer (some a),.int .u64 150])).run Tryz.prog w=.ok (some (149,a,150)) w:=Zf
theorem Tryz.isNil149 (a p:Addr) (W:World) (ha:W.cell? a=some (.pointer (some p))) :
  (ReflectliteValue.method (ReflectliteValue.valueError "reflectlite.Value.IsNil" 0) ReflectliteValue.isNil #[.agg #[.pointer (some ⟨5,149,none⟩),.pointer (some a),.int .u64 150]]).run Tryz.prog W=.ok (.bool false) W:=by
 rw [rlm]
 simp only [Sem.run_bind,Tryz.parts149,Result.andThen]
 simp [ReflectliteValue.isNil,loadVar,isAgg,underlying,Tryz.underlying149,ha,Result.andThen]
theorem Tryz.methodElem (h:Value) (w:World):(Go.method 412 233 (.agg #[h]) "Elem").run Tryz.prog w=.ok (255,.agg #[h]) w:=Zf
theorem Tryz.methodImplements (h:Value) (w:World):(Go.method 412 233 (.agg #[h]) "Implements").run Tryz.prog w=.ok (256,.agg #[h]) w:=Zf
theorem Tryz.methodAssignableTo (h:Value) (w:World):(Go.method 412 233 (.agg #[h]) "AssignableTo").run Tryz.prog w=.ok (253,.agg #[h]) w:=Zf
theorem Tryz.elem149 (w:World):(ReflectliteType.method ReflectliteType.elem #[.agg #[.pointer (some ⟨5,149,none⟩)]]).run Tryz.prog w=.ok (.iface 233 (.agg #[.pointer (some ⟨5,90,none⟩)])) w:=Zf
theorem Tryz.implements90 (w:World):(ReflectliteType.relation "Implements" ReflectliteType.implements_ #[.agg #[.pointer (some ⟨5,90,none⟩)],.iface 233 (.agg #[.pointer (some ⟨5,86,none⟩)])]).run Tryz.prog w=.ok (.bool true) w:=Zf
theorem Tryz.typeOf90 (v:Value) (w:World):(ReflectliteType.typeOf #[.iface 90 v]).run Tryz.prog w=.ok (.iface 233 (.agg #[.pointer (some ⟨5,90,none⟩)])) w:=Zf
theorem Tryz.typeOf146 (v:Value) (w:World):(ReflectliteType.typeOf #[.iface 146 v]).run Tryz.prog w=.ok (.iface 233 (.agg #[.pointer (some ⟨5,146,none⟩)])) w:=Zf
theorem Tryz.assignable90 (w:World):(ReflectliteType.relation "AssignableTo" ReflectliteType.assignableTo #[.agg #[.pointer (some ⟨5,90,none⟩)],.iface 233 (.agg #[.pointer (some ⟨5,90,none⟩)])]).run Tryz.prog w=.ok (.bool true) w:=Zf
theorem Tryz.assignable146 (w:World):(ReflectliteType.relation "AssignableTo" ReflectliteType.assignableTo #[.agg #[.pointer (some ⟨5,146,none⟩)],.iface 233 (.agg #[.pointer (some ⟨5,90,none⟩)])]).run Tryz.prog w=.ok (.bool false) w:=Zf
theorem Tryz.valueOf90 (a b:Int) (w:World):(ReflectliteValue.unpack (.iface 90 (.agg #[.int .i64 a,.int .i64 b]))).run Tryz.prog w
  = .ok (.agg #[.pointer (some ⟨5,90,none⟩),.pointer (some ⟨w.1.size,0,none⟩),.int .u64 153]) (w.alloc (.cells #[.int .i64 a,.int .i64 b] 90)):=Zf
theorem Tryz.elemOf149 (w:World):(Rtype.elem? 149).run Tryz.prog w=.ok (some 90) w:=Zf
theorem Tryz.mk90 (p:Addr) (w:World):(ReflectliteValue.mk 90 p ReflectliteValue.flagAddr).run Tryz.prog w=.ok (.agg #[.pointer (some ⟨5,90,none⟩),.pointer (some p),.int .u64 409]) w:=Zf
theorem Tryz.elemV149 (a p:Addr) (W:World) (ha:W.cell? a=some (.pointer (some p))) :
  (ReflectliteValue.method (ReflectliteValue.valueError "reflectlite.Value.Elem" 0) ReflectliteValue.elem #[.agg #[.pointer (some ⟨5,149,none⟩),.pointer (some a),.int .u64 150]]).run Tryz.prog W
   = .ok (.agg #[.pointer (some ⟨5,90,none⟩),.pointer (some p),.int .u64 409]) W:=by
 rw [rlm]
 simp only [Sem.run_bind,Tryz.parts149,Result.andThen]
 simp [ReflectliteValue.elem,loadVar,isAgg,underlying,Tryz.underlying149,ha,Result.andThen,Tryz.elemOf149,Tryz.mk90]
theorem rls (v x:Value):ReflectliteValue.set #[v,x]=(do
  let (some (dst,a,fl),some (src,b,_)):=(←ReflectliteValue.parts v,←ReflectliteValue.parts x)
   | unsupported (.noEntry "extern/(internal/reflectlite.Value).Set.zeroValue")
  if fl / ReflectliteValue.flagAddr % 2==0 then unsupported (.noEntry "extern/(internal/reflectlite.Value).Set.unaddressable")
  let val ←loadVar src b
  if ←Rtype.directlyAssignable dst src then storeVar dst a val
  else if ←Rtype.implements dst src then
   if (←Rtype.kind src)==20 then
    match val with
    | .nilIface=>unsupported (.noEntry "extern/reflectlite: a nil value of one interface type handed on as a value of another")
    | _=>storeVar dst a val
   else storeVar dst a (.iface src val)
  else panicString ("reflectlite.Set: value of type " ++ (←Rtype.spelt src) ++ " is not assignable to type " ++ (←Rtype.spelt dst))
  pure (.tuple #[])):=rfl
theorem Tryz.parts90a (a:Addr) (w:World):(ReflectliteValue.parts (.agg #[.pointer (some ⟨5,90,none⟩),.pointer (some a),.int .u64 409])).run Tryz.prog w=.ok (some (90,a,409)) w:=Zf
theorem Tryz.parts90 (a:Addr) (w:World):(ReflectliteValue.parts (.agg #[.pointer (some ⟨5,90,none⟩),.pointer (some a),.int .u64 153])).run Tryz.prog w=.ok (some (90,a,153)) w:=Zf
theorem Tryz.direct90 (w:World):(Rtype.directlyAssignable 90 90).run Tryz.prog w=.ok true w:=Zf
theorem Tryz.sz90:(Tryz.prog.info? 90).map (·.size)=some 2:=Zf
theorem Tryz.set90 (R b:Nat) (c d:Int) (o0 o1:Value) (W:World) (hb0:W.cell? ⟨b,0,none⟩=some (.int .i64 c)) (hb1:W.cell? ⟨b,1,none⟩=some (.int .i64 d)) (h0:W.cell? ⟨R,0,none⟩=some o0) (h1:W.cell? ⟨R,1,none⟩=some o1) (hf:∀ j,W.frozen? ⟨R,j,none⟩=false) :
  (ReflectliteValue.set #[.agg #[.pointer (some ⟨5,90,none⟩),.pointer (some ⟨R,0,none⟩),.int .u64 409],.agg #[.pointer (some ⟨5,90,none⟩),.pointer (some ⟨b,0,none⟩),.int .u64 153]]).run Tryz.prog W
   = .ok (.tuple #[]) ((W.setCell ⟨R,0,none⟩ (.int .i64 c)).setCell ⟨R,1,none⟩ (.int .i64 d)):=by
 have hl:=run_loadVar_mid (P:=Tryz.prog) W b 0 90 [.int .i64 c,.int .i64 d] _ (fun j v hj=>by
  rcases j with _|_|j
  ·simp at hj;subst hj;exact hb0
  ·simp at hj;subst hj;exact hb1
  ·simp at hj) Tryz.underlying90 rfl Tryz.sz90
 have hs:=run_storeVar_mid (P:=Tryz.prog) W R 0 90 #[.int .i64 c,.int .i64 d] (fun j hj=>by
  have hj':j<2:=hj
  rcases (show j=0∨j=1 by omega) with rfl|rfl
  ·rw [Nat.zero_add,h0];exact ⟨rfl,hf 0⟩
  ·rw [Nat.zero_add,h1];exact ⟨rfl,hf 1⟩) Tryz.sz90 Zbi
 rw [rls]
 simp only [Sem.run_bind,Tryz.parts90a,Tryz.parts90,Result.andThen]
 simp [ReflectliteValue.flagAddr,hl,Tryz.direct90,hs,Result.andThen,World.setCells]
theorem Tryz.assert238 (x:Value) (w:World):(Instr.typeAssert (.iface 146 x) 86 238 true).run Tryz.prog w=.ok (.tuple #[.nilIface,.bool false]) w:=
 run_typeAssert_lacksB Tryz.underlying238 Zf Zf x 86 w
theorem Tryz.assert241 (x:Value) (w:World):(Instr.typeAssert (.iface 146 x) 86 241 true).run Tryz.prog w=.ok (.tuple #[.iface 146 x,.bool true]) w:=
 run_typeAssert_hasB Tryz.underlying241 Zf x 86 w
theorem Tryz.methodUnwrap (x:Value) (w:World):(Go.method 412 146 x "Unwrap").run Tryz.prog w=.ok (248,x) w:=Zf
theorem unwrap_any (v:Wr) (c d:Int) (w:World):Calls Tryz.prog 248 #[.agg #[.int .i64 v.op,.string v.kind,.string v.name,.int .i64 v.seen,.string v.text,.string v.hold,.iface 90 (.agg #[.int .i64 c,.int .i64 d])]] w fun e w'=>e=.returned (.iface 90 (.agg #[.int .i64 c,.int .i64 d]))∧Below w.1.size w w':=by
 go_enter Tryz.func248,Tryz.ntmps248
 go_wp2
 go_ret
 exact ⟨rfl,below_alloc _ _⟩
end Go.Proofs.YtllmmkchokkaaaaGreatDoor
namespace Go.Proofs.YtllmmkchokkaaaaGreatDoor
open Go.RowKit Go.Extern.Stop Go.Stop Go.Extern
theorem as_any (v:Wr) (c d:Int) (R a:Nat) (o0 o1:Value) (w:World) (hR:R<w.1.size) (ha:a<w.1.size) (_hRa:¬R=a) (h0:w.cell? ⟨R,0,none⟩=some o0) (h1:w.cell? ⟨R,1,none⟩=some o1) (hf:∀ j,w.frozen? ⟨R,j,none⟩=false) (hp:w.cell? ⟨a,0,none⟩=some (.pointer (some ⟨R,0,none⟩))) :
  Calls Tryz.prog 165 #[.iface 146 (.agg #[.int .i64 v.op,.string v.kind,.string v.name,.int .i64 v.seen,.string v.text,.string v.hold,.iface 90 (.agg #[.int .i64 c,.int .i64 d])]),.iface 149 (.pointer (some ⟨R,0,none⟩)),.agg #[.pointer (some ⟨5,149,none⟩),.pointer (some ⟨a,0,none⟩),.int .u64 150],.iface 233 (.agg #[.pointer (some ⟨5,90,none⟩)])] w fun e w'=>e=.returned (.bool true)∧FrP (fun q=>q=R) w w'∧w'.cell? ⟨R,0,none⟩=some (.int .i64 c)∧w'.cell? ⟨R,1,none⟩=some (.int .i64 d):=by
 have B0:=below_alloc w (.cells #[.pointer (some ⟨5,149,none⟩),.pointer (some ⟨a,0,none⟩),.int .u64 150] 206)
 have h162:=@run_callFunc_extern Tryz.prog 162 _ (fun args=>ReflectliteValue.unpack (args.getD 0 (.tuple #[]))) Tryz.func162 Zf Zf Zf Zf
 have h189:=@run_callFunc_extern Tryz.prog 189 _ (ReflectliteType.typeOf) Tryz.func189 Zf Zf Zf Zf
 have h253:=@run_callFunc_extern Tryz.prog 253 _ (ReflectliteType.relation "AssignableTo" ReflectliteType.assignableTo) Tryz.func253 Zf Zf Zf Zf
 have h190:=@run_callFunc_extern Tryz.prog 190 _ (ReflectliteValue.method (ReflectliteValue.valueError "reflectlite.Value.Elem" 0) ReflectliteValue.elem) Tryz.func190 Zf Zf Zf Zf
 have h191:=@run_callFunc_extern Tryz.prog 191 _ (ReflectliteValue.set) Tryz.func191 Zf Zf Zf Zf
 have tO:=Tryz.typeOf146
 have tO2:=Tryz.typeOf90
 have mA:=Tryz.methodAssignableTo
 have a146:=Tryz.assignable146
 have a90:=Tryz.assignable90
 have s238:=Tryz.assert238
 have s241:=Tryz.assert241
 have mU:=Tryz.methodUnwrap
 have v90:=Tryz.valueOf90
 go_enter Tryz.func165,Tryz.ntmps165
 go_wp2
 refine wp_loop_rounds 2 ?_
 rw [rounds_succ]
 go_wp2_with fail
 refine (unwrap_any v c d _).mono ?_
 rintro e w1 ⟨rfl,hb1⟩
 have B1:=B0.trans (hb1.mono B0.size)
 have rb:=RowF.new (w:=w) (l:=[.pointer (some ⟨5,149,none⟩),.pointer (some ⟨a,0,none⟩),.int .u64 150]) (t:=206) hb1
 have y0:=rb.cell 0 Zd
 have y1:=rb.cell 1 Zd
 have y2:=rb.cell 2 Zd
 simp only [vec,List.getD_cons_zero,List.getD_cons_succ] at y0 y1 y2
 have zb:w.1.size<w1.1.size:=rb.lt
 have zR:R<w1.1.size:=Za
 have hp1:=(B1.cell (p:=⟨a,0,none⟩) ha).trans hp
 have k0:=(B1.cell (p:=⟨R,0,none⟩) hR).trans h0
 have k1:=(B1.cell (p:=⟨R,1,none⟩) hR).trans h1
 have kf:=fun j=>(B1.frozen (p:=⟨R,j,none⟩) hR).trans (hf j)
 have el:=Tryz.elemV149 ⟨a,0,none⟩ ⟨R,0,none⟩ w1 hp1
 have BA:=below_alloc w1 (.cells #[.int .i64 c,.int .i64 d] 90)
 have st:=Tryz.set90 R w1.1.size c d o0 o1 (w1.alloc (.cells #[.int .i64 c,.int .i64 d] 90)) (new_cell rfl) (new_cell rfl) ((BA.cell (p:=⟨R,0,none⟩) zR).trans k0) ((BA.cell (p:=⟨R,1,none⟩) zR).trans k1) (fun j=>(BA.frozen (p:=⟨R,j,none⟩) zR).trans (kf j))
 have zS:R<((w1.setCell ⟨R,0,none⟩ (.int .i64 c)).setCell ⟨R,1,none⟩ (.int .i64 d)).1.size:=by simpa using zR
 have BS:=below_alloc ((w1.setCell ⟨R,0,none⟩ (.int .i64 c)).setCell ⟨R,1,none⟩ (.int .i64 d)) (.cells #[.int .i64 c,.int .i64 d] 90)
 have HFIN:=hid (show FrP (fun q=>q=R) w (((w1.setCell ⟨R,0,none⟩ (.int .i64 c)).setCell ⟨R,1,none⟩ (.int .i64 d)).alloc (.cells #[.int .i64 c,.int .i64 d] 90))∧(((w1.setCell ⟨R,0,none⟩ (.int .i64 c)).setCell ⟨R,1,none⟩ (.int .i64 d)).alloc (.cells #[.int .i64 c,.int .i64 d] 90)).cell? ⟨R,0,none⟩=some (.int .i64 c)∧(((w1.setCell ⟨R,0,none⟩ (.int .i64 c)).setCell ⟨R,1,none⟩ (.int .i64 d)).alloc (.cells #[.int .i64 c,.int .i64 d] 90)).cell? ⟨R,1,none⟩=some (.int .i64 d) from
  ⟨(((FrP.of_below B1).trans (FrP.setCell (P:=fun q=>q=R) (FrP.refl _ _) rfl _)).trans (FrP.setCell (P:=fun q=>q=R) (FrP.refl _ _) rfl _)).trans (FrP.of_below BS),
   (BS.cell (p:=⟨R,0,none⟩) zS).trans (by rw [World.cell?_setCell_other _ _ _ _ Zd];exact World.cell?_setCell_same _ _ _ k0),
   (BS.cell (p:=⟨R,1,none⟩) zS).trans (World.cell?_setCell_same _ _ _ (by rw [World.cell?_setCell_other _ _ _ _ Zd];exact k1))⟩)
 clear hb1 B0 B1 rb BS zS hp1 k0 k1 kf BA h0 h1 hf hp
 go_wp2
 rw [rounds_succ]
 go_wp2
 go_ret
 exact ⟨rfl,HFIN.out⟩
theorem asTop_any (v:Wr) (c d:Int) (R:Nat) (o0 o1:Value) (w:World) (hg:w.cell? ⟨0,0,none⟩=some (.iface 233 (.agg #[.pointer (some ⟨5,86,none⟩)]))) (hR:R<w.1.size) (h0:w.cell? ⟨R,0,none⟩=some o0) (h1:w.cell? ⟨R,1,none⟩=some o1) (hf:∀ j,w.frozen? ⟨R,j,none⟩=false) :
  Calls Tryz.prog 103 #[.iface 146 (.agg #[.int .i64 v.op,.string v.kind,.string v.name,.int .i64 v.seen,.string v.text,.string v.hold,.iface 90 (.agg #[.int .i64 c,.int .i64 d])]),.iface 149 (.pointer (some ⟨R,0,none⟩))] w fun e w'=>e=.returned (.bool true)∧FrP (fun q=>q=R) w w'∧w'.cell? ⟨R,0,none⟩=some (.int .i64 c)∧w'.cell? ⟨R,1,none⟩=some (.int .i64 d):=by
 have h162:=@run_callFunc_extern Tryz.prog 162 _ (fun args=>ReflectliteValue.unpack (args.getD 0 (.tuple #[]))) Tryz.func162 Zf Zf Zf Zf
 have h163:=@run_callFunc_extern Tryz.prog 163 _ (ReflectliteValue.methodAny (ReflectliteValue.valueError "reflectlite.Value.Type" 0) (fun t _ _ _=>ReflectliteType.toType t)) Tryz.func163 Zf Zf Zf Zf
 have h164:=@run_callFunc_extern Tryz.prog 164 _ (ReflectliteValue.method (ReflectliteValue.valueError "reflectlite.Value.IsNil" 0) ReflectliteValue.isNil) Tryz.func164 Zf Zf Zf Zf
 have h243:=@run_callFunc_extern Tryz.prog 243 _ (ReflectliteType.abiMethod fun t=>do pure (.int .u8 (←Rtype.kind t))) Tryz.func243 Zf Zf Zf Zf
 have h255:=@run_callFunc_extern Tryz.prog 255 _ (ReflectliteType.method ReflectliteType.elem) Tryz.func255 Zf Zf Zf Zf
 have h256:=@run_callFunc_extern Tryz.prog 256 _ (ReflectliteType.relation "Implements" ReflectliteType.implements_) Tryz.func256 Zf Zf Zf Zf
 have f6:=Tryz.valueOf149
 have f7:=Tryz.type149
 have mK:=Tryz.methodKind
 have mE:=Tryz.methodElem
 have mI:=Tryz.methodImplements
 have k149:=Tryz.kind149
 have k90:=Tryz.kind90
 have e149:=Tryz.elem149
 have i90:=Tryz.implements90
 have B2:Below w.1.size w ((w.alloc (.cells #[.pointer (some ⟨R,0,none⟩)] 149)).alloc (.cells #[.pointer (some ⟨5,149,none⟩),.pointer (some ⟨w.1.size,0,none⟩),.int .u64 150] 206)):=(below_alloc _ _).trans ((below_alloc _ _).mono Zd)
 have hcl:((w.alloc (.cells #[.pointer (some ⟨R,0,none⟩)] 149)).alloc (.cells #[.pointer (some ⟨5,149,none⟩),.pointer (some ⟨w.1.size,0,none⟩),.int .u64 150] 206)).cell? ⟨w.1.size,0,none⟩=some (.pointer (some ⟨R,0,none⟩)):=((below_alloc (w.alloc (.cells #[.pointer (some ⟨R,0,none⟩)] 149)) (.cells #[.pointer (some ⟨5,149,none⟩),.pointer (some ⟨w.1.size,0,none⟩),.int .u64 150] 206)).cell (p:=⟨w.1.size,0,none⟩) Zd).trans (new_cell rfl)
 have n8:=Tryz.isNil149 ⟨w.1.size,0,none⟩ ⟨R,0,none⟩ ((w.alloc (.cells #[.pointer (some ⟨R,0,none⟩)] 149)).alloc (.cells #[.pointer (some ⟨5,149,none⟩),.pointer (some ⟨w.1.size,0,none⟩),.int .u64 150] 206)) hcl
 have hlt:0<w.1.size:=Za
 have hg2:=(B2.cell (p:=⟨0,0,none⟩) hlt).trans hg
 have HAS:=hid (as_any v c d R w.1.size o0 o1 ((w.alloc (.cells #[.pointer (some ⟨R,0,none⟩)] 149)).alloc (.cells #[.pointer (some ⟨5,149,none⟩),.pointer (some ⟨w.1.size,0,none⟩),.int .u64 150] 206)) (Nat.lt_of_lt_of_le hR B2.size) Zc Za ((B2.cell (p:=⟨R,0,none⟩) hR).trans h0) ((B2.cell (p:=⟨R,1,none⟩) hR).trans h1) (fun j=>(B2.frozen (p:=⟨R,j,none⟩) hR).trans (hf j)) hcl)
 have HB2:=hid B2
 clear B2 hcl h0 h1 hf
 go_enter Tryz.func103,Tryz.ntmps103
 go_wp2_with fail
 refine HAS.out.mono ?_
 rintro e w3 ⟨rfl,hf3,q0,q1⟩
 have HFIN:=hid (show FrP (fun q=>q=R) w w3∧w3.cell? ⟨R,0,none⟩=some (.int .i64 c)∧w3.cell? ⟨R,1,none⟩=some (.int .i64 d) from ⟨(FrP.of_below HB2.out).trans hf3,q0,q1⟩)
 clear hf3 q0 q1
 go_wp2
 go_ret
 exact ⟨rfl,HFIN.out⟩
theorem refusalOf_any (v:Wr) (c d:Int) (w:World) (hg:w.cell? ⟨0,0,none⟩=some (.iface 233 (.agg #[.pointer (some ⟨5,86,none⟩)]))):Calls Tryz.prog 44 #[.iface 146 (.agg #[.int .i64 v.op,.string v.kind,.string v.name,.int .i64 v.seen,.string v.text,.string v.hold,.iface 90 (.agg #[.int .i64 c,.int .i64 d])])] w fun e w'=>e=.returned (.agg #[.int .i64 c,.int .i64 d])∧Below w.1.size w w':=by
 have hlt:0<w.1.size:=by
  rcases Nat.eq_zero_or_pos w.1.size with h0|h
  ·simp [World.cell?,h0] at hg
  ·exact h
 have B2:Below w.1.size w ((w.alloc (.cells #[.int .i64 0,.int .i64 0] 90)).alloc (.cells #[.int .i64 0,.int .i64 0] 90)):=(below_alloc _ _).trans ((below_alloc _ _).mono Zd)
 have HAS:=hid (asTop_any v c d (w.1.size+1) (.int .i64 0) (.int .i64 0) ((w.alloc (.cells #[.int .i64 0,.int .i64 0] 90)).alloc (.cells #[.int .i64 0,.int .i64 0] 90)) ((B2.cell (p:=⟨0,0,none⟩) hlt).trans hg) Zd (new_cell Zd) (new_cell Zd) (fun j=>new_free Zd))
 clear B2 hg
 go_enter Tryz.func44,Tryz.ntmps44
 go_wp2_with fail
 refine HAS.out.mono ?_
 rintro e w3 ⟨rfl,hf3,q0,q1⟩
 have z3:w.1.size+1<w3.1.size:=by have:=hf3.size;simp at this;omega
 have p0:w3.cell? ⟨w.1.size,0,none⟩=some (.int .i64 0):=(hf3.cell (p:=⟨w.1.size,0,none⟩) Zc Zd).trans (((below_alloc (w.alloc (.cells #[.int .i64 0,.int .i64 0] 90)) (.cells #[.int .i64 0,.int .i64 0] 90)).cell (p:=⟨w.1.size,0,none⟩) Zd).trans (new_cell rfl))
 have p1:w3.cell? ⟨w.1.size,1,none⟩=some (.int .i64 0):=(hf3.cell (p:=⟨w.1.size,1,none⟩) Zc Zd).trans (((below_alloc (w.alloc (.cells #[.int .i64 0,.int .i64 0] 90)) (.cells #[.int .i64 0,.int .i64 0] 90)).cell (p:=⟨w.1.size,1,none⟩) Zd).trans (new_cell rfl))
 have pf:∀ j,w3.frozen? ⟨w.1.size,j,none⟩=false:=fun j=>(hf3.frozen (p:=⟨w.1.size,j,none⟩) Zc Zd).trans (((below_alloc (w.alloc (.cells #[.int .i64 0,.int .i64 0] 90)) (.cells #[.int .i64 0,.int .i64 0] 90)).frozen (p:=⟨w.1.size,j,none⟩) Zd).trans (new_free rfl))
 have HB3:=hid (show Below w.1.size w w3 from ((below_alloc _ _).trans ((below_alloc _ _).mono Zd)).trans (hf3.below (B:=w.1.size) (fun q hq e=>by omega) Zc))
 clear hf3
 go_wp2
 refine bodyPost_ret (v:=.agg #[.int .i64 c,.int .i64 d]) (by simp [results,Tryz.results44,go_sem,p0,p1]) rfl ⟨rfl,?_⟩
 exact (HB3.out.setCell Zbt _).setCell Zbt _
end Go.Proofs.YtllmmkchokkaaaaGreatDoor
