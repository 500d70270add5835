import Derived.Test.YtllmmkchokkaaaaGreatDoorPk29
import Derived.Laws.EntriesVeiled
set_option maxRecDepth 100000
set_option maxHeartbeats 4000000
namespace Go.Proofs.YtllmmkchokkaaaaGreatDoor
open Go.RowKit Go.Maps
theorem ObjsIn.up {w:World} {lo hi hi2:Nat} {ad:Option Addr} {n:Nat} {x:Nat→Ob} (h:ObjsIn w lo hi ad n x) (hh:hi≤hi2):ObjsIn w lo hi2 ad n x:=fun i hi'=>by
 obtain ⟨b,off,ah,ch,e1,e2,e3,e4,e5⟩:=h i hi'
 exact ⟨b,off,ah,ch,e1,e2,Nat.lt_of_lt_of_le e3 hh,e4,e5.mono (Nat.le_refl _) hh⟩
def plB (x:Nat→Ob) (ki na:ByteArray):Nat→Nat
 | 0=>0
 | n+1=>if plB x ki na n=n∧kcI x ki na n<0 then n+1 else plB x ki na n
theorem plB_is (x:Nat→Ob) (ki na:ByteArray):∀ n,plB x ki na n≤n∧(∀ j,j<plB x ki na n→kcI x ki na j<0)∧(plB x ki na n<n→¬kcI x ki na (plB x ki na n)<0)
 | 0=>⟨Nat.le_refl _,fun j hj=>absurd hj (Nat.not_lt_zero _),fun h=>absurd h (Nat.not_lt_zero _)⟩
 | n+1=>by
  obtain ⟨h1,h2,h3⟩:=plB_is x ki na n
  unfold plB
  by_cases e:plB x ki na n=n∧kcI x ki na n<0
  ·rw [if_pos e]
   refine ⟨Nat.le_refl _,fun j hj=>?_,fun h=>absurd h (Nat.lt_irrefl _)⟩
   rcases Nat.lt_or_ge j n with h|h
   ·exact h2 j (by omega)
   ·obtain rfl:j=n:=by omega
    exact e.2
  ·rw [if_neg e]
   refine ⟨by omega,h2,fun _=>?_⟩
   rcases Nat.lt_or_ge (plB x ki na n) n with h|h
   ·exact h3 h
   ·have e1:plB x ki na n=n:=by omega
    rw [e1]
    exact fun hx=>e ⟨e1,hx⟩
theorem plB_eq {x:Nat→Ob} {ki na:ByteArray} {n i:Nat} (hi:i≤n) (h1:∀ j,j<i→kcI x ki na j<0) (h2:i<n→¬kcI x ki na i<0):plB x ki na n=i:=by
 obtain ⟨g1,g2,g3⟩:=plB_is x ki na n
 rcases Nat.lt_trichotomy (plB x ki na n) i with h|h|h
 ·exact absurd (h1 _ h) (g3 (by omega))
 ·exact h
 ·exact absurd (g2 _ h) (h2 (by omega))
def plW (B:Bk) (v:Wr):Nat:=plB B.os v.kind v.name B.on
def foB (B:Bk) (v:Wr):Bool:=decide (plW B v<B.on)&&decide (kcI B.os v.kind v.name (plW B v)=0)
theorem place_rk (B:Bk) (v:Wr) (ad:Option Addr) (cap:Nat) (w:World) (lo hi:Nat) (hhi:hi≤w.1.size) (hc:ObjsIn w lo hi ad B.on B.os) (hok:WOk B v) :
  Calls Tryz.prog 96 #[.slice ad B.on cap,.agg #[.string v.kind,.string v.name]] w fun e w'=>e=.returned (.tuple #[.int .i64 (plB B.os v.kind v.name B.on:Nat),.bool (foB B v)])∧Below w.1.size w w':=by
 have hon:=hok.on
 refine (placeOf_any B.on B.os ad cap v.kind v.name w lo hi hhi (by omega) hc (kc_asc hok)).mono ?_
 rintro e w' ⟨i,h1,h2,h3,rfl,hb⟩
 have e1:plB B.os v.kind v.name B.on=i:=plB_eq h1 h2 (fun h=>by have:=h3 i (Nat.le_refl _) h;omega)
 refine ⟨?_,hb⟩
 unfold foB plW
 rw [e1]
theorem place_at {B:Bk} {v:Wr} (hok:WOk B v):PlaceAt B v (plW B v):=by
 obtain ⟨h1,h2,h3⟩:=plB_is B.os v.kind v.name B.on
 refine ⟨h1,h2,fun j hj hn hx=>?_⟩
 rcases Nat.eq_or_lt_of_le hj with e|e
 ·subst e
  exact h3 hn hx
 ·exact h3 (Nat.lt_trans e hn) (kc_asc hok _ j e hn hx)
def wiReg1G (K Bw:Nat) (B:Bk) (y:Wr) (a1:Option Addr) (c1:Nat) (_W:World) (i:Nat) (v:Value) (_X:World):Prop:=
 match i with
 | 0=>v=.pointer (some ⟨K,0,none⟩)
 | 1=>v=.pointer (some ⟨K,0,none⟩)
 | 2=>v=.pointer (some ⟨K,2,none⟩)
 | 3=>v=.slice a1 B.on c1
 | 4=>v=.pointer (some ⟨Bw,1,none⟩)
 | 5=>v=.string y.kind
 | 6=>v=.pointer (some ⟨Bw,2,none⟩)
 | 7=>v=.string y.name
 | 8=>v=.agg #[.string y.kind,.string y.name]
 | 9=>v=.tuple #[.int .i64 (plB B.os y.kind y.name B.on:Nat),.bool (foB B y)]
 | 10=>v=.tuple #[.int .i64 (plB B.os y.kind y.name B.on:Nat),.bool (foB B y)]
 | 11=>v=.int .i64 (plB B.os y.kind y.name B.on:Nat)
 | 12=>v=.bool (foB B y)
 | 13=>v=.int .i64 (plB B.os y.kind y.name B.on:Nat)
 | 14=>v=.bool (foB B y)
 | _=>True
theorem wiReg1 (p1 p2 p4 p7 p8 p9 p10 p24 p25 p26 p27 p28 p29 p30 p31 p32 p33 p34 p35 p36 p37 p38 p39 p40 p41 p42 p43 p44 p45 p46 p47 p48 p49 p50 p51 p52 p53 p54 p55 p56 p57 p58 p59 p60 p61:Value) (t0:Nat→Value) (K Bw:Nat) (B:Bk) (y:Wr) (a1:Option Addr) (c1:Nat) (W:World) (hK:K<W.1.size) (hk:W.cell? ⟨K,2,none⟩=some (.slice a1 B.on c1)) (hw:RowF W Bw 6 (vec [.int .i64 y.op,.string y.kind,.string y.name,.int .i64 y.seen,.string y.text,.string y.hold])) (ho:ObjsIn W 0 W.1.size a1 B.on B.os) (hok:WOk B y) (Q:Exit→Act→World→Prop) (hQ:∀ (t:Nat→Value) X,Below W.1.size W X→Q .normal ⟨#[.pointer (some ⟨K,0,none⟩),p1,p2,.pointer (some ⟨Bw,0,none⟩),p4,.int .i64 (plB B.os y.kind y.name B.on:Nat),.bool (foB B y),p7,p8,p9,p10,t 10,t 0,t 1,t 2,t 3,t 4,t 5,t 6,t 7,t 8,t 9,t 11,t 12,p24,p25,p26,p27,p28,p29,p30,p31,p32,p33,p34,p35,p36,p37,p38,p39,p40,p41,p42,p43,p44,p45,p46,p47,p48,p49,p50,p51,p52,p53,p54,p55,p56,p57,p58,p59,p60,p61],[]⟩ X) :
  Code.wp Tryz.prog (Code.region 1 #[⟨some 12,.move (.tmp 0),88, "l2_book_write.go:118",#[],none⟩,⟨some 13,.nilCheck (.tmp 12),0, "l2_book_write.go:118",#[⟨0,.data⟩],none⟩,⟨some 14,.fieldAddr 35 (.tmp 13) 2,0, "l2_book_write.go:118",#[⟨1,.data⟩],none⟩,⟨some 15,.load 31 (.tmp 14),31, "l2_book_write.go:118",#[⟨2,.data⟩],none⟩,⟨some 16,.fieldAddr 40 (.tmp 3) 1,0, "l2_book_write.go:118",#[],none⟩,⟨some 17,.load 9 (.tmp 16),9, "l2_book_write.go:118",#[⟨4,.data⟩],none⟩,⟨some 18,.fieldAddr 40 (.tmp 3) 2,0, "l2_book_write.go:118",#[],none⟩,⟨some 19,.load 9 (.tmp 18),9, "l2_book_write.go:118",#[⟨6,.data⟩],none⟩,⟨some 20,.build 139 #[(0,.tmp 17),(1,.tmp 19)],139, "l2_book_write.go:118",#[⟨5,.data⟩,⟨7,.data⟩],none⟩,⟨some 21,.call ⟨.value (.func 96),#[.tmp 15,.tmp 20],#[31,139]⟩,136, "l2_book_write.go:118",#[⟨3,.data⟩,⟨8,.data⟩],none⟩,⟨some 11,.move (.tmp 21),136, "l2_book_write.go:118",#[⟨9,.data⟩],none⟩,⟨some 22,.extract (.tmp 11) 0,3, "l2_book_write.go:118",#[⟨10,.data⟩],none⟩,⟨some 23,.extract (.tmp 11) 1,4, "l2_book_write.go:118",#[⟨10,.data⟩,{ on:=13,ground:=Ground.gcOnly Departure.lateStores }],none⟩,⟨some 5,.assign (.tmp 22),3, "l2_book_write.go:118",#[⟨11,.data⟩,⟨9,.chain⟩,⟨0,.phase⟩,⟨1,.phase⟩,⟨2,.phase⟩,⟨3,.phase⟩,⟨4,.phase⟩,⟨5,.phase⟩,⟨6,.phase⟩,⟨7,.phase⟩,⟨8,.phase⟩,⟨9,.phase⟩,⟨10,.phase⟩,⟨11,.phase⟩,{ on:=12,ground:=Ground.textOnly Departure.lateStores }],none⟩,⟨some 6,.assign (.tmp 23),4, "l2_book_write.go:118",#[⟨12,.data⟩,⟨13,.chain⟩,⟨0,.phase⟩,⟨1,.phase⟩,⟨2,.phase⟩,⟨3,.phase⟩,⟨4,.phase⟩,⟨5,.phase⟩,⟨6,.phase⟩,⟨7,.phase⟩,⟨8,.phase⟩,⟨9,.phase⟩,⟨10,.phase⟩,⟨11,.phase⟩,⟨12,.phase⟩,⟨13,.phase⟩],none⟩] true) Q ⟨#[.pointer (some ⟨K,0,none⟩),p1,p2,.pointer (some ⟨Bw,0,none⟩),p4,t0 13,t0 14,p7,p8,p9,p10,t0 10,t0 0,t0 1,t0 2,t0 3,t0 4,t0 5,t0 6,t0 7,t0 8,t0 9,t0 11,t0 12,p24,p25,p26,p27,p28,p29,p30,p31,p32,p33,p34,p35,p36,p37,p38,p39,p40,p41,p42,p43,p44,p45,p46,p47,p48,p49,p50,p51,p52,p53,p54,p55,p56,p57,p58,p59,p60,p61],[]⟩ W:=by
 refine regionV (by kernel_rfl) 15 (fun t:Nat→Value=>#[.pointer (some ⟨K,0,none⟩),p1,p2,.pointer (some ⟨Bw,0,none⟩),p4,t 13,t 14,p7,p8,p9,p10,t 10,t 0,t 1,t 2,t 3,t 4,t 5,t 6,t 7,t 8,t 9,t 11,t 12,p24,p25,p26,p27,p28,p29,p30,p31,p32,p33,p34,p35,p36,p37,p38,p39,p40,p41,p42,p43,p44,p45,p46,p47,p48,p49,p50,p51,p52,p53,p54,p55,p56,p57,p58,p59,p60,p61]) t0 (wiReg1G K Bw B y a1 c1 W) (by kernel_rfl) (by kernel_rfl) ?_ rfl ?_ ?_
 ·exact fun _ _ _ _ _ h _=>h
 ·intro i hi t X KK hb hg hKK
  rcases (show i=0∨i=1∨i=2∨i=3∨i=4∨i=5∨i=6∨i=7∨i=8∨i=9∨i=10∨i=11∨i=12∨i=13∨i=14 by omega) with rfl|rfl|rfl|rfl|rfl|rfl|rfl|rfl|rfl|rfl|rfl|rfl|rfl|rfl|rfl
  ·have h:=hKK (.pointer (some ⟨K,0,none⟩)) X rfl (Below.refl _ _)
   refine wpOp_of rfl rfl ?_
   clear hKK hg
   go_simp
   simpa [updT] using h
  ·have e0:t 0=.pointer (some ⟨K,0,none⟩):=hg 0 (Wt rfl)
   have h:=hKK (.pointer (some ⟨K,0,none⟩)) X rfl (Below.refl _ _)
   refine wpOp_of rfl rfl ?_
   clear hKK hg
   go_simp
   simpa [updT,e0] using h
  ·have e1:t 1=.pointer (some ⟨K,0,none⟩):=hg 1 (Wt rfl)
   have h:=hKK (.pointer (some ⟨K,2,none⟩)) X rfl (Below.refl _ _)
   refine wpOp_of rfl rfl ?_
   clear hKK hg
   go_simp
   simpa [updT,e1] using h
  ·have e2:t 2=.pointer (some ⟨K,2,none⟩):=hg 2 (Wt rfl)
   have l0:=(hb.cell (p:=⟨K,2,none⟩) hK).trans hk
   have zl:=Nat.lt_of_lt_of_le hK hb.size
   have h:=hKK (.slice a1 B.on c1) X rfl (Below.refl _ _)
   refine wpOp_of rfl rfl ?_
   clear hKK hg
   go_simp
   simpa [updT,e2] using h
  ·have h:=hKK (.pointer (some ⟨Bw,1,none⟩)) X rfl (Below.refl _ _)
   refine wpOp_of rfl rfl ?_
   clear hKK hg
   go_simp
   simpa [updT] using h
  ·have e4:t 4=.pointer (some ⟨Bw,1,none⟩):=hg 4 (Wt rfl)
   have l0:=(hb.cell (p:=⟨Bw,1,none⟩) hw.lt).trans (show W.cell? ⟨Bw,1,none⟩=some (.string y.kind) from hw.cell 1 (by first|decide|simp))
   have zl:=Nat.lt_of_lt_of_le hw.lt hb.size
   have h:=hKK (.string y.kind) X rfl (Below.refl _ _)
   refine wpOp_of rfl rfl ?_
   clear hKK hg
   go_simp
   simpa [updT,e4] using h
  ·have h:=hKK (.pointer (some ⟨Bw,2,none⟩)) X rfl (Below.refl _ _)
   refine wpOp_of rfl rfl ?_
   clear hKK hg
   go_simp
   simpa [updT] using h
  ·have e6:t 6=.pointer (some ⟨Bw,2,none⟩):=hg 6 (Wt rfl)
   have l0:=(hb.cell (p:=⟨Bw,2,none⟩) hw.lt).trans (show W.cell? ⟨Bw,2,none⟩=some (.string y.name) from hw.cell 2 (by first|decide|simp))
   have zl:=Nat.lt_of_lt_of_le hw.lt hb.size
   have h:=hKK (.string y.name) X rfl (Below.refl _ _)
   refine wpOp_of rfl rfl ?_
   clear hKK hg
   go_simp
   simpa [updT,e6] using h
  ·have e5:t 5=.string y.kind:=hg 5 (Wt rfl)
   have e7:t 7=.string y.name:=hg 7 (Wt rfl)
   have h:=hKK (.agg #[.string y.kind,.string y.name]) X rfl (Below.refl _ _)
   refine wpOp_of rfl rfl ?_
   clear hKK hg
   go_simp
   simpa [updT,e5,e7] using h
  ·have e3:t 3=.slice a1 B.on c1:=hg 3 (Wt rfl)
   have e8:t 8=.agg #[.string y.kind,.string y.name]:=hg 8 (Wt rfl)
   refine wpOp_of rfl rfl ?_
   have HK:=hid hKK
   have HO:=hid (ho.below hb (Nat.le_refl _))
   clear hKK hg
   go_simp
   go_at_call 96
   refine (place_rk B y a1 c1 X 0 W.1.size hb.size HO.out hok).mono ?_
   rintro r Y ⟨rfl,hbY⟩
   have h:=HK.out (.tuple #[.int .i64 (plB B.os y.kind y.name B.on:Nat),.bool (foB B y)]) Y rfl hbY
   simpa [updT,e3,e8] using h
  ·have e9:t 9=.tuple #[.int .i64 (plB B.os y.kind y.name B.on:Nat),.bool (foB B y)]:=hg 9 (Wt rfl)
   have h:=hKK (.tuple #[.int .i64 (plB B.os y.kind y.name B.on:Nat),.bool (foB B y)]) X rfl (Below.refl _ _)
   refine wpOp_of rfl rfl ?_
   clear hKK hg
   go_simp
   simpa [updT,e9] using h
  ·have e10:t 10=.tuple #[.int .i64 (plB B.os y.kind y.name B.on:Nat),.bool (foB B y)]:=hg 10 (Wt rfl)
   have h:=hKK (.int .i64 (plB B.os y.kind y.name B.on:Nat)) X rfl (Below.refl _ _)
   refine wpOp_of rfl rfl ?_
   clear hKK hg
   go_simp
   simpa [updT,e10] using h
  ·have e10:t 10=.tuple #[.int .i64 (plB B.os y.kind y.name B.on:Nat),.bool (foB B y)]:=hg 10 (Wt rfl)
   have h:=hKK (.bool (foB B y)) X rfl (Below.refl _ _)
   refine wpOp_of rfl rfl ?_
   clear hKK hg
   go_simp
   simpa [updT,e10] using h
  ·have e11:t 11=.int .i64 (plB B.os y.kind y.name B.on:Nat):=hg 11 (Wt rfl)
   have h:=hKK (.int .i64 (plB B.os y.kind y.name B.on:Nat)) X rfl (Below.refl _ _)
   refine wpOp_of rfl rfl ?_
   clear hKK hg
   go_simp
   simpa [updT,e11] using h
  ·have e12:t 12=.bool (foB B y):=hg 12 (Wt rfl)
   have h:=hKK (.bool (foB B y)) X rfl (Below.refl _ _)
   refine wpOp_of rfl rfl ?_
   clear hKK hg
   go_simp
   simpa [updT,e12] using h
 ·intro t X hb hG
  have f13:t 13=.int .i64 (plB B.os y.kind y.name B.on:Nat):=hG 13 (by omega)
  have f14:t 14=.bool (foB B y):=hG 14 (by omega)
  show Q .normal ⟨#[.pointer (some ⟨K,0,none⟩),p1,p2,.pointer (some ⟨Bw,0,none⟩),p4,t 13,t 14,p7,p8,p9,p10,t 10,t 0,t 1,t 2,t 3,t 4,t 5,t 6,t 7,t 8,t 9,t 11,t 12,p24,p25,p26,p27,p28,p29,p30,p31,p32,p33,p34,p35,p36,p37,p38,p39,p40,p41,p42,p43,p44,p45,p46,p47,p48,p49,p50,p51,p52,p53,p54,p55,p56,p57,p58,p59,p60,p61],[]⟩ X
  rw [f13,f14]
  exact hQ t X hb
theorem desk_new {X:World} {o:Obj} (K:Nat) (B:Bk) (v:Wr) (op:Int) (h:op=v.op):DeskAt ((X.alloc (.cells #[.pointer (some ⟨K,0,none⟩),.int .i64 op,.string v.kind,.string v.name,.int .i64 v.seen,.string v.text,.string v.hold,.int .i64 (plB B.os v.kind v.name B.on:Nat),.bool (foB B v)] 141)).alloc o) X.1.size K v (plW B v:Nat) (foB B v):=by
 subst h
 have e:∀ j,((X.alloc (.cells #[.pointer (some ⟨K,0,none⟩),.int .i64 v.op,.string v.kind,.string v.name,.int .i64 v.seen,.string v.text,.string v.hold,.int .i64 (plB B.os v.kind v.name B.on:Nat),.bool (foB B v)] 141)).alloc o).cell? ⟨X.1.size,j,none⟩=#[.pointer (some ⟨K,0,none⟩),.int .i64 v.op,.string v.kind,.string v.name,.int .i64 v.seen,.string v.text,.string v.hold,.int .i64 (plB B.os v.kind v.name B.on:Nat),.bool (foB B v)][j]?:=fun j=>by
  rw [(below_alloc (X.alloc (.cells #[.pointer (some ⟨K,0,none⟩),.int .i64 v.op,.string v.kind,.string v.name,.int .i64 v.seen,.string v.text,.string v.hold,.int .i64 (plB B.os v.kind v.name B.on:Nat),.bool (foB B v)] 141)) o).cell (p:=⟨X.1.size,j,none⟩) (by simp)]
  exact new_cell rfl
 exact ⟨e 0,e 1,e 2,e 3,e 4,e 5,e 6,e 7,e 8⟩
structure WS (w:World) (K g:Nat) (B:Bk) (v:Wr) (L:List EO) (a1:Option Addr) (c1:Nat) (k1 k3 k4:Value):Prop where
 kr:RowF w K 5 (vec [.int .i64 B.now,k1,.slice a1 B.on c1,k3,k4])
 row:RowS w a1 g c1 L
 ol:L.map EO.ob=tkL B.on B.os
 hold:∀ e ∈ L,StrsIn w 0 w.1.size e.A e.ob.hn e.ob.hs
 cap:∀ e ∈ L,CapOk e.ob.hn e.A e.C
 ok:WOk B v
theorem WS.dk {w X:World} {K g:Nat} {B:Bk} {v:Wr} {L:List EO} {a1:Option Addr} {c1:Nat} {k1 k3 k4:Value} (h:WS w K g B v L a1 c1 k1 k3 k4) (hb:Below w.1.size w X) {D:Nat} (hd:DeskAt X D K v (plW B v:Nat) (foB B v)) (hD:D<X.1.size):DkIn X D K g B v L a1 c1 (plW B v) (foB B v):=
 have r:=h.kr.below hb h.kr.lt
 ⟨hd,hD,r.lt,r.cell 0 (by decide),r.cell 2 (by decide),h.row.grow hb,h.ol,fun e he=>((h.hold e he).below hb (Nat.le_refl _)).mono (Nat.le_refl _) hb.size,h.cap,place_at h.ok,rfl,h.ok⟩
theorem WS.objs {w:World} {K g:Nat} {B:Bk} {v:Wr} {L:List EO} {a1:Option Addr} {c1:Nat} {k1 k3 k4:Value} (h:WS w K g B v L a1 c1 k1 k3 k4):ObjsIn w 0 w.1.size a1 B.on B.os:=fun i hi=>by
 have hlen:L.length=B.on:=by
  have:=congrArg List.length h.ol
  simpa [tkL] using this
 rcases h.row with ⟨_,e2,_⟩|⟨e1,e2,_⟩
 ·rw [e2] at hlen
  simp at hlen
  omega
 ·have h1:=e2.ob i (by omega)
  have h2:=h.hold _ (ixE_mem (L:=L) (i:=i) (by omega))
  have h3:(ixE L i).ob=B.os i:=by
   have h4:=ixE_map (L:=L) (i:=i) (by omega)
   rw [h.ol] at h4
   simpa [tkL,hi] using h4.symm
  rw [h3] at h1 h2
  exact ⟨g,0,_,_,e1,Nat.zero_le _,e2.lt,by rw [Nat.zero_add];exact h1,h2⟩
def EOk (B:Bk) (v:Wr) (L:List EO) (w X:World) (E:EO):Prop:=
 E.ob=opOb B v (wOf B v).ver∧StrsIn X 0 X.1.size E.A E.ob.hn E.ob.hs ∧
   (
     ((v.op=2∨v.op=3)∧E.A=(ixE L (plW B v)).A∧E.C=(ixE L (plW B v)).C∧E.hb=(ixE L (plW B v)).hb) ∨
     (¬v.op=2∧¬v.op=3∧w.1.size≤E.hb∧(E.ob.hn≠0→E.hb<X.1.size)∧StrsOwn X E.hb (E.hb+1) E.A E.ob.hn E.ob.hs))
theorem EOk.grow {B:Bk} {v:Wr} {L:List EO} {w X Y:World} {E:EO} (h:EOk B v L w X E) (hb:Below X.1.size X Y):EOk B v L w Y E:=by
 obtain ⟨h1,h2,h3⟩:=h
 refine ⟨h1,(h2.below hb (Nat.le_refl _)).mono (Nat.le_refl _) hb.size,?_⟩
 rcases h3 with h3|⟨q1,q2,q3,q4,q5⟩
 ·exact Or.inl h3
 ·exact Or.inr ⟨q1,q2,q3,fun h0=>Nat.lt_of_lt_of_le (q4 h0) hb.size,q5.frP (FrP.of_below (P:=fun _=>False) hb) (fun h0=>⟨id,q4 h0⟩)⟩
def IntoP (B:Bk) (v:Wr) (L:List EO) (Pst:EO→World→World→Prop) (w:World) (e:Ending) (w':World):Prop:=
 (¬wCode B v=0∧e=.returned (.iface 146 (.agg #[.int .i64 v.op,.string v.kind,.string v.name,.int .i64 v.seen,.string v.text,.string v.hold,.iface 90 (.agg #[.int .i64 (wCode B v),.int .i64 (oVer B v)])]))∧Below w.1.size w w') ∨
 (wCode B v=0∧e=.returned .nilIface∧∃ E X,Below w.1.size w X∧EOk B v L w X E∧Pst E X w')
theorem into_1 (K g:Nat) (B:Bk) (v:Wr) (L:List EO) (a1:Option Addr) (c1:Nat) (k1 k3 k4:Value) (Pst:EO→World→World→Prop) (w:World) (hin:WS w K g B v L a1 c1 k1 k3 k4) (hop:v.op=1)
  (hP:∀ D X E,Below w.1.size w X→DkIn X D K g B v L a1 c1 (plW B v) (foB B v)→w.1.size≤D→EOk B v L w X E→wCode B v=0→Calls Tryz.prog 102 #[.pointer (some ⟨D,0,none⟩),obV E] X fun e w'=>e=.returned (.tuple #[])∧Pst E X w') :
  Calls Tryz.prog 43 #[.pointer (some ⟨K,0,none⟩),.agg #[.int .i64 v.op,.string v.kind,.string v.name,.int .i64 v.seen,.string v.text,.string v.hold]] w (IntoP B v L Pst w):=by
 have HIN:=hid hin
 have HOP:=hid hop
 have HP:=hid hP
 have zK:=hin.kr.lt
 have hB:=below_alloc w (.cells #[.int .i64 v.op,.string v.kind,.string v.name,.int .i64 v.seen,.string v.text,.string v.hold] 40)
 have hk2:=hin.kr.cell 2 (by decide)
 simp only [vec,List.getD_cons_zero,List.getD_cons_succ] at hk2
 clear hin hop hP hk2
 go_enter Tryz.func43,Tryz.ntmps43
 go_wp2_with fail
 refine wiReg1 _ _ _ _ _ _ _ _ _ _ _ _ _ _ _ _ _ _ _ _ _ _ _ _ _ _ _ _ _ _ _ _ _ _ _ _ _ _ _ _ _ _ _ _ _ (fun _=>undef) K w.1.size B v a1 c1 _ (by simp;omega) ((HIN.out.kr.below hB zK).cell 2 (by decide)) (RowF.new (w:=w) (l:=[.int .i64 v.op,.string v.kind,.string v.name,.int .i64 v.seen,.string v.text,.string v.hold]) (t:=40) (Below.refl _ _)) ((HIN.out.objs.below hB (Nat.le_refl _)).up hB.size) HIN.out.ok _ ?_
 intro t X hbX
 have rw0:=RowF.new (w:=w) (l:=[.int .i64 v.op,.string v.kind,.string v.name,.int .i64 v.seen,.string v.text,.string v.hold]) (t:=40) hbX
 have hbX':=hB.trans (hbX.mono (by simp))
 have zX:w.1.size<X.1.size:=rw0.lt
 rw [HOP.out] at rw0
 have p0:=rw0.cell 0 (by first|decide|simp)
 have p1:=rw0.cell 1 (by first|decide|simp)
 have p2:=rw0.cell 2 (by first|decide|simp)
 have p3:=rw0.cell 3 (by first|decide|simp)
 have p4:=rw0.cell 4 (by first|decide|simp)
 have p5:=rw0.cell 5 (by first|decide|simp)
 simp only [vec,List.getD_cons_zero,List.getD_cons_succ] at p0 p1 p2 p3 p4 p5
 have RW0:=hid rw0
 have HBX:=hid hbX'
 clear hbX hbX' rw0 hB
 go_wp2_with fail
 have B2:=fun o1 o2=>HBX.out.trans (((below_alloc X o1).trans ((below_alloc (X.alloc o1) o2).mono (by simp))).mono (Nat.le_of_lt zX))
 refine (op1_any (HIN.out.dk (B2 _ _) (desk_new K B v 1 HOP.out.symm) (by simp;omega)) HOP.out).mono ?_
 rintro e w9 ⟨hb9,hpost⟩
 have z9:=hb9.size
 have DK9:=hid (fun (o:Obj)=>(HIN.out.dk (B2 _ _) (desk_new K B v 1 HOP.out.symm) (by simp;omega)).grow (hb9.trans ((below_alloc w9 o).mono hb9.size)))
 have zD9:w.1.size≤X.1.size:=Nat.le_of_lt zX
 have HB9:=hid ((B2 _ _).trans (hb9.mono (by simp;omega)))
 have r9:=(RW0.out.below (((below_alloc X _).trans ((below_alloc (X.alloc _) _).mono (by simp))).trans (hb9.mono (by simp;omega))) RW0.out.lt)
 have kr9:=HIN.out.kr.below HB9.out zK
 have zK9:K<w9.1.size:=kr9.lt
 have zW9:w.1.size<w9.1.size:=r9.lt
 clear p0 p1 p2 p3 p4 p5
 have p0:=r9.cell 0 (by first|decide|simp)
 have p1:=r9.cell 1 (by first|decide|simp)
 have p2:=r9.cell 2 (by first|decide|simp)
 have p3:=r9.cell 3 (by first|decide|simp)
 have p4:=r9.cell 4 (by first|decide|simp)
 have p5:=r9.cell 5 (by first|decide|simp)
 simp only [vec,List.getD_cons_zero,List.getD_cons_succ] at p0 p1 p2 p3 p4 p5
 have kk0:=kr9.cell 0 (by decide)
 simp only [vec,List.getD_cons_zero] at kk0
 clear hb9 B2 r9 kr9
 rcases hpost with ⟨hc,rfl⟩|⟨hc,E,hE,rfl,hE2,hE3⟩
 ·have hcc:wCode B v=oCode B v:=if_neg hc
  have HFIN:=hid (show ∀ w',Below w.1.size w w'→IntoP B v L Pst w (.returned (.iface 146 (.agg #[.int .i64 1,.string v.kind,.string v.name,.int .i64 v.seen,.string v.text,.string v.hold,.iface 90 (.agg #[.int .i64 (oCode B v),.int .i64 (oVer B v)])]))) w' from fun w' hb=>Or.inl ⟨by rw [hcc];exact hc,by rw [hcc,HOP.out],hb⟩)
  clear hc hcc
  go_wp2
  go_ret
  exact HFIN.out _ (by repeat (first|with_reducible exact HB9.out|with_reducible refine Below.setCell ?_ (by first|omega|(simp;omega)) _|with_reducible refine Below.alloc ?_ (by first|omega|(simp;omega)) _))
 ·have hov:oVer B v=0:=if_neg (by rw [hc];decide)
  by_cases hm:B.now=1000000
  ·have hcc:wCode B v=8:=by unfold wCode;rw [if_pos hc,if_pos (by omega)]
   have HFIN:=hid (show ∀ w',Below w.1.size w w'→IntoP B v L Pst w (.returned (.iface 146 (.agg #[.int .i64 1,.string v.kind,.string v.name,.int .i64 v.seen,.string v.text,.string v.hold,.iface 90 (.agg #[.int .i64 8,.int .i64 0])]))) w' from fun w' hb=>Or.inl ⟨by rw [hcc];decide,by rw [hcc,HOP.out,hov],hb⟩)
   rw [hm] at kk0
   clear hc hcc hm hov hE hE2 hE3
   go_wp2
   go_ret
   exact HFIN.out _ (by repeat (first|with_reducible exact HB9.out|with_reducible refine Below.setCell ?_ (by first|omega|(simp;omega)) _|with_reducible refine Below.alloc ?_ (by first|omega|(simp;omega)) _))
  ·have h1:=HIN.out.ok.now1
   have hcc:wCode B v=0:=by unfold wCode;rw [if_pos hc,if_neg (by omega)]
   have HE:=hid (show EOk B v L w w9 E from ⟨hE,hE2,by
    rcases hE3 with q|⟨q1,q2,q3,q4,q5⟩
    ·exact Or.inl q
    ·exact Or.inr ⟨q1,q2,Nat.le_trans (by simp;omega) q3,q4,q5⟩⟩)
   have hm1:(B.now==1000000)=false:=by simpa using hm
   have HCC:=hid hcc
   clear hc hcc hm hov hE hE2 hE3 h1
   go_wp2_with fail
   refine (HP.out X.1.size _ E (HB9.out.trans ((below_alloc w9 _).mono (Nat.le_of_lt zW9))) (DK9.out _) zD9 (HE.out.grow (below_alloc w9 _)) HCC.out).mono ?_
   rintro e w10 ⟨rfl,hst⟩
   have HFIN:=hid (show IntoP B v L Pst w (.returned .nilIface) w10 from Or.inr ⟨HCC.out,rfl,E,_,HB9.out.trans ((below_alloc w9 _).mono (Nat.le_of_lt zW9)),HE.out.grow (below_alloc w9 _),hst⟩)
   clear hst
   go_wp2
   go_ret
   exact HFIN.out
theorem into_2 (K g:Nat) (B:Bk) (v:Wr) (L:List EO) (a1:Option Addr) (c1:Nat) (k1 k3 k4:Value) (Pst:EO→World→World→Prop) (w:World) (hin:WS w K g B v L a1 c1 k1 k3 k4) (hop:v.op=2)
  (hP:∀ D X E,Below w.1.size w X→DkIn X D K g B v L a1 c1 (plW B v) (foB B v)→w.1.size≤D→EOk B v L w X E→wCode B v=0→Calls Tryz.prog 102 #[.pointer (some ⟨D,0,none⟩),obV E] X fun e w'=>e=.returned (.tuple #[])∧Pst E X w') :
  Calls Tryz.prog 43 #[.pointer (some ⟨K,0,none⟩),.agg #[.int .i64 v.op,.string v.kind,.string v.name,.int .i64 v.seen,.string v.text,.string v.hold]] w (IntoP B v L Pst w):=by
 have HIN:=hid hin
 have HOP:=hid hop
 have HP:=hid hP
 have zK:=hin.kr.lt
 have hB:=below_alloc w (.cells #[.int .i64 v.op,.string v.kind,.string v.name,.int .i64 v.seen,.string v.text,.string v.hold] 40)
 have hk2:=hin.kr.cell 2 (by decide)
 simp only [vec,List.getD_cons_zero,List.getD_cons_succ] at hk2
 clear hin hop hP hk2
 go_enter Tryz.func43,Tryz.ntmps43
 go_wp2_with fail
 refine wiReg1 _ _ _ _ _ _ _ _ _ _ _ _ _ _ _ _ _ _ _ _ _ _ _ _ _ _ _ _ _ _ _ _ _ _ _ _ _ _ _ _ _ _ _ _ _ (fun _=>undef) K w.1.size B v a1 c1 _ (by simp;omega) ((HIN.out.kr.below hB zK).cell 2 (by decide)) (RowF.new (w:=w) (l:=[.int .i64 v.op,.string v.kind,.string v.name,.int .i64 v.seen,.string v.text,.string v.hold]) (t:=40) (Below.refl _ _)) ((HIN.out.objs.below hB (Nat.le_refl _)).up hB.size) HIN.out.ok _ ?_
 intro t X hbX
 have rw0:=RowF.new (w:=w) (l:=[.int .i64 v.op,.string v.kind,.string v.name,.int .i64 v.seen,.string v.text,.string v.hold]) (t:=40) hbX
 have hbX':=hB.trans (hbX.mono (by simp))
 have zX:w.1.size<X.1.size:=rw0.lt
 rw [HOP.out] at rw0
 have p0:=rw0.cell 0 (by first|decide|simp)
 have p1:=rw0.cell 1 (by first|decide|simp)
 have p2:=rw0.cell 2 (by first|decide|simp)
 have p3:=rw0.cell 3 (by first|decide|simp)
 have p4:=rw0.cell 4 (by first|decide|simp)
 have p5:=rw0.cell 5 (by first|decide|simp)
 simp only [vec,List.getD_cons_zero,List.getD_cons_succ] at p0 p1 p2 p3 p4 p5
 have RW0:=hid rw0
 have HBX:=hid hbX'
 clear hbX hbX' rw0 hB
 go_wp2_with fail
 have B2:=fun o1 o2=>HBX.out.trans (((below_alloc X o1).trans ((below_alloc (X.alloc o1) o2).mono (by simp))).mono (Nat.le_of_lt zX))
 refine (op2_any (HIN.out.dk (B2 _ _) (desk_new K B v 2 HOP.out.symm) (by simp;omega)) HOP.out).mono ?_
 rintro e w9 ⟨hb9,hpost⟩
 have z9:=hb9.size
 have DK9:=hid (fun (o:Obj)=>(HIN.out.dk (B2 _ _) (desk_new K B v 2 HOP.out.symm) (by simp;omega)).grow (hb9.trans ((below_alloc w9 o).mono hb9.size)))
 have zD9:w.1.size≤X.1.size:=Nat.le_of_lt zX
 have HB9:=hid ((B2 _ _).trans (hb9.mono (by simp;omega)))
 have r9:=(RW0.out.below (((below_alloc X _).trans ((below_alloc (X.alloc _) _).mono (by simp))).trans (hb9.mono (by simp;omega))) RW0.out.lt)
 have kr9:=HIN.out.kr.below HB9.out zK
 have zK9:K<w9.1.size:=kr9.lt
 have zW9:w.1.size<w9.1.size:=r9.lt
 clear p0 p1 p2 p3 p4 p5
 have p0:=r9.cell 0 (by first|decide|simp)
 have p1:=r9.cell 1 (by first|decide|simp)
 have p2:=r9.cell 2 (by first|decide|simp)
 have p3:=r9.cell 3 (by first|decide|simp)
 have p4:=r9.cell 4 (by first|decide|simp)
 have p5:=r9.cell 5 (by first|decide|simp)
 simp only [vec,List.getD_cons_zero,List.getD_cons_succ] at p0 p1 p2 p3 p4 p5
 have kk0:=kr9.cell 0 (by decide)
 simp only [vec,List.getD_cons_zero] at kk0
 clear hb9 B2 r9 kr9
 rcases hpost with ⟨hc,rfl⟩|⟨hc,E,hE,rfl,hE2,hE3⟩
 ·have hcc:wCode B v=oCode B v:=if_neg hc
  have HFIN:=hid (show ∀ w',Below w.1.size w w'→IntoP B v L Pst w (.returned (.iface 146 (.agg #[.int .i64 2,.string v.kind,.string v.name,.int .i64 v.seen,.string v.text,.string v.hold,.iface 90 (.agg #[.int .i64 (oCode B v),.int .i64 (oVer B v)])]))) w' from fun w' hb=>Or.inl ⟨by rw [hcc];exact hc,by rw [hcc,HOP.out],hb⟩)
  clear hc hcc
  go_wp2
  go_ret
  exact HFIN.out _ (by repeat (first|with_reducible exact HB9.out|with_reducible refine Below.setCell ?_ (by first|omega|(simp;omega)) _|with_reducible refine Below.alloc ?_ (by first|omega|(simp;omega)) _))
 ·have hov:oVer B v=0:=if_neg (by rw [hc];decide)
  by_cases hm:B.now=1000000
  ·have hcc:wCode B v=8:=by unfold wCode;rw [if_pos hc,if_pos (by omega)]
   have HFIN:=hid (show ∀ w',Below w.1.size w w'→IntoP B v L Pst w (.returned (.iface 146 (.agg #[.int .i64 2,.string v.kind,.string v.name,.int .i64 v.seen,.string v.text,.string v.hold,.iface 90 (.agg #[.int .i64 8,.int .i64 0])]))) w' from fun w' hb=>Or.inl ⟨by rw [hcc];decide,by rw [hcc,HOP.out,hov],hb⟩)
   rw [hm] at kk0
   clear hc hcc hm hov hE hE2 hE3
   go_wp2
   go_ret
   exact HFIN.out _ (by repeat (first|with_reducible exact HB9.out|with_reducible refine Below.setCell ?_ (by first|omega|(simp;omega)) _|with_reducible refine Below.alloc ?_ (by first|omega|(simp;omega)) _))
  ·have h1:=HIN.out.ok.now1
   have hcc:wCode B v=0:=by unfold wCode;rw [if_pos hc,if_neg (by omega)]
   have HE:=hid (show EOk B v L w w9 E from ⟨hE,hE2,by
    rcases hE3 with q|⟨q1,q2,q3,q4,q5⟩
    ·exact Or.inl q
    ·exact Or.inr ⟨q1,q2,Nat.le_trans (by simp;omega) q3,q4,q5⟩⟩)
   have hm1:(B.now==1000000)=false:=by simpa using hm
   have HCC:=hid hcc
   clear hc hcc hm hov hE hE2 hE3 h1
   go_wp2_with fail
   refine (HP.out X.1.size _ E (HB9.out.trans ((below_alloc w9 _).mono (Nat.le_of_lt zW9))) (DK9.out _) zD9 (HE.out.grow (below_alloc w9 _)) HCC.out).mono ?_
   rintro e w10 ⟨rfl,hst⟩
   have HFIN:=hid (show IntoP B v L Pst w (.returned .nilIface) w10 from Or.inr ⟨HCC.out,rfl,E,_,HB9.out.trans ((below_alloc w9 _).mono (Nat.le_of_lt zW9)),HE.out.grow (below_alloc w9 _),hst⟩)
   clear hst
   go_wp2
   go_ret
   exact HFIN.out
theorem into_3 (K g:Nat) (B:Bk) (v:Wr) (L:List EO) (a1:Option Addr) (c1:Nat) (k1 k3 k4:Value) (Pst:EO→World→World→Prop) (w:World) (hin:WS w K g B v L a1 c1 k1 k3 k4) (hop:v.op=3)
  (hP:∀ D X E,Below w.1.size w X→DkIn X D K g B v L a1 c1 (plW B v) (foB B v)→w.1.size≤D→EOk B v L w X E→wCode B v=0→Calls Tryz.prog 102 #[.pointer (some ⟨D,0,none⟩),obV E] X fun e w'=>e=.returned (.tuple #[])∧Pst E X w') :
  Calls Tryz.prog 43 #[.pointer (some ⟨K,0,none⟩),.agg #[.int .i64 v.op,.string v.kind,.string v.name,.int .i64 v.seen,.string v.text,.string v.hold]] w (IntoP B v L Pst w):=by
 have HIN:=hid hin
 have HOP:=hid hop
 have HP:=hid hP
 have zK:=hin.kr.lt
 have hB:=below_alloc w (.cells #[.int .i64 v.op,.string v.kind,.string v.name,.int .i64 v.seen,.string v.text,.string v.hold] 40)
 have hk2:=hin.kr.cell 2 (by decide)
 simp only [vec,List.getD_cons_zero,List.getD_cons_succ] at hk2
 clear hin hop hP hk2
 go_enter Tryz.func43,Tryz.ntmps43
 go_wp2_with fail
 refine wiReg1 _ _ _ _ _ _ _ _ _ _ _ _ _ _ _ _ _ _ _ _ _ _ _ _ _ _ _ _ _ _ _ _ _ _ _ _ _ _ _ _ _ _ _ _ _ (fun _=>undef) K w.1.size B v a1 c1 _ (by simp;omega) ((HIN.out.kr.below hB zK).cell 2 (by decide)) (RowF.new (w:=w) (l:=[.int .i64 v.op,.string v.kind,.string v.name,.int .i64 v.seen,.string v.text,.string v.hold]) (t:=40) (Below.refl _ _)) ((HIN.out.objs.below hB (Nat.le_refl _)).up hB.size) HIN.out.ok _ ?_
 intro t X hbX
 have rw0:=RowF.new (w:=w) (l:=[.int .i64 v.op,.string v.kind,.string v.name,.int .i64 v.seen,.string v.text,.string v.hold]) (t:=40) hbX
 have hbX':=hB.trans (hbX.mono (by simp))
 have zX:w.1.size<X.1.size:=rw0.lt
 rw [HOP.out] at rw0
 have p0:=rw0.cell 0 (by first|decide|simp)
 have p1:=rw0.cell 1 (by first|decide|simp)
 have p2:=rw0.cell 2 (by first|decide|simp)
 have p3:=rw0.cell 3 (by first|decide|simp)
 have p4:=rw0.cell 4 (by first|decide|simp)
 have p5:=rw0.cell 5 (by first|decide|simp)
 simp only [vec,List.getD_cons_zero,List.getD_cons_succ] at p0 p1 p2 p3 p4 p5
 have RW0:=hid rw0
 have HBX:=hid hbX'
 clear hbX hbX' rw0 hB
 go_wp2_with fail
 have B2:=fun o1 o2=>HBX.out.trans (((below_alloc X o1).trans ((below_alloc (X.alloc o1) o2).mono (by simp))).mono (Nat.le_of_lt zX))
 refine (op3_any (HIN.out.dk (B2 _ _) (desk_new K B v 3 HOP.out.symm) (by simp;omega)) HOP.out).mono ?_
 rintro e w9 ⟨hb9,hpost⟩
 have z9:=hb9.size
 have DK9:=hid (fun (o:Obj)=>(HIN.out.dk (B2 _ _) (desk_new K B v 3 HOP.out.symm) (by simp;omega)).grow (hb9.trans ((below_alloc w9 o).mono hb9.size)))
 have zD9:w.1.size≤X.1.size:=Nat.le_of_lt zX
 have HB9:=hid ((B2 _ _).trans (hb9.mono (by simp;omega)))
 have r9:=(RW0.out.below (((below_alloc X _).trans ((below_alloc (X.alloc _) _).mono (by simp))).trans (hb9.mono (by simp;omega))) RW0.out.lt)
 have kr9:=HIN.out.kr.below HB9.out zK
 have zK9:K<w9.1.size:=kr9.lt
 have zW9:w.1.size<w9.1.size:=r9.lt
 clear p0 p1 p2 p3 p4 p5
 have p0:=r9.cell 0 (by first|decide|simp)
 have p1:=r9.cell 1 (by first|decide|simp)
 have p2:=r9.cell 2 (by first|decide|simp)
 have p3:=r9.cell 3 (by first|decide|simp)
 have p4:=r9.cell 4 (by first|decide|simp)
 have p5:=r9.cell 5 (by first|decide|simp)
 simp only [vec,List.getD_cons_zero,List.getD_cons_succ] at p0 p1 p2 p3 p4 p5
 have kk0:=kr9.cell 0 (by decide)
 simp only [vec,List.getD_cons_zero] at kk0
 clear hb9 B2 r9 kr9
 rcases hpost with ⟨hc,rfl⟩|⟨hc,E,hE,rfl,hE2,hE3⟩
 ·have hcc:wCode B v=oCode B v:=if_neg hc
  have HFIN:=hid (show ∀ w',Below w.1.size w w'→IntoP B v L Pst w (.returned (.iface 146 (.agg #[.int .i64 3,.string v.kind,.string v.name,.int .i64 v.seen,.string v.text,.string v.hold,.iface 90 (.agg #[.int .i64 (oCode B v),.int .i64 (oVer B v)])]))) w' from fun w' hb=>Or.inl ⟨by rw [hcc];exact hc,by rw [hcc,HOP.out],hb⟩)
  clear hc hcc
  go_wp2
  go_ret
  exact HFIN.out _ (by repeat (first|with_reducible exact HB9.out|with_reducible refine Below.setCell ?_ (by first|omega|(simp;omega)) _|with_reducible refine Below.alloc ?_ (by first|omega|(simp;omega)) _))
 ·have hov:oVer B v=0:=if_neg (by rw [hc];decide)
  by_cases hm:B.now=1000000
  ·have hcc:wCode B v=8:=by unfold wCode;rw [if_pos hc,if_pos (by omega)]
   have HFIN:=hid (show ∀ w',Below w.1.size w w'→IntoP B v L Pst w (.returned (.iface 146 (.agg #[.int .i64 3,.string v.kind,.string v.name,.int .i64 v.seen,.string v.text,.string v.hold,.iface 90 (.agg #[.int .i64 8,.int .i64 0])]))) w' from fun w' hb=>Or.inl ⟨by rw [hcc];decide,by rw [hcc,HOP.out,hov],hb⟩)
   rw [hm] at kk0
   clear hc hcc hm hov hE hE2 hE3
   go_wp2
   go_ret
   exact HFIN.out _ (by repeat (first|with_reducible exact HB9.out|with_reducible refine Below.setCell ?_ (by first|omega|(simp;omega)) _|with_reducible refine Below.alloc ?_ (by first|omega|(simp;omega)) _))
  ·have h1:=HIN.out.ok.now1
   have hcc:wCode B v=0:=by unfold wCode;rw [if_pos hc,if_neg (by omega)]
   have HE:=hid (show EOk B v L w w9 E from ⟨hE,hE2,by
    rcases hE3 with q|⟨q1,q2,q3,q4,q5⟩
    ·exact Or.inl q
    ·exact Or.inr ⟨q1,q2,Nat.le_trans (by simp;omega) q3,q4,q5⟩⟩)
   have hm1:(B.now==1000000)=false:=by simpa using hm
   have HCC:=hid hcc
   clear hc hcc hm hov hE hE2 hE3 h1
   go_wp2_with fail
   refine (HP.out X.1.size _ E (HB9.out.trans ((below_alloc w9 _).mono (Nat.le_of_lt zW9))) (DK9.out _) zD9 (HE.out.grow (below_alloc w9 _)) HCC.out).mono ?_
   rintro e w10 ⟨rfl,hst⟩
   have HFIN:=hid (show IntoP B v L Pst w (.returned .nilIface) w10 from Or.inr ⟨HCC.out,rfl,E,_,HB9.out.trans ((below_alloc w9 _).mono (Nat.le_of_lt zW9)),HE.out.grow (below_alloc w9 _),hst⟩)
   clear hst
   go_wp2
   go_ret
   exact HFIN.out
theorem into_4 (K g:Nat) (B:Bk) (v:Wr) (L:List EO) (a1:Option Addr) (c1:Nat) (k1 k3 k4:Value) (Pst:EO→World→World→Prop) (w:World) (hin:WS w K g B v L a1 c1 k1 k3 k4) (hop:v.op=4)
  (hP:∀ D X E,Below w.1.size w X→DkIn X D K g B v L a1 c1 (plW B v) (foB B v)→w.1.size≤D→EOk B v L w X E→wCode B v=0→Calls Tryz.prog 102 #[.pointer (some ⟨D,0,none⟩),obV E] X fun e w'=>e=.returned (.tuple #[])∧Pst E X w') :
  Calls Tryz.prog 43 #[.pointer (some ⟨K,0,none⟩),.agg #[.int .i64 v.op,.string v.kind,.string v.name,.int .i64 v.seen,.string v.text,.string v.hold]] w (IntoP B v L Pst w):=by
 have HIN:=hid hin
 have HOP:=hid hop
 have HP:=hid hP
 have zK:=hin.kr.lt
 have hB:=below_alloc w (.cells #[.int .i64 v.op,.string v.kind,.string v.name,.int .i64 v.seen,.string v.text,.string v.hold] 40)
 have hk2:=hin.kr.cell 2 (by decide)
 simp only [vec,List.getD_cons_zero,List.getD_cons_succ] at hk2
 clear hin hop hP hk2
 go_enter Tryz.func43,Tryz.ntmps43
 go_wp2_with fail
 refine wiReg1 _ _ _ _ _ _ _ _ _ _ _ _ _ _ _ _ _ _ _ _ _ _ _ _ _ _ _ _ _ _ _ _ _ _ _ _ _ _ _ _ _ _ _ _ _ (fun _=>undef) K w.1.size B v a1 c1 _ (by simp;omega) ((HIN.out.kr.below hB zK).cell 2 (by decide)) (RowF.new (w:=w) (l:=[.int .i64 v.op,.string v.kind,.string v.name,.int .i64 v.seen,.string v.text,.string v.hold]) (t:=40) (Below.refl _ _)) ((HIN.out.objs.below hB (Nat.le_refl _)).up hB.size) HIN.out.ok _ ?_
 intro t X hbX
 have rw0:=RowF.new (w:=w) (l:=[.int .i64 v.op,.string v.kind,.string v.name,.int .i64 v.seen,.string v.text,.string v.hold]) (t:=40) hbX
 have hbX':=hB.trans (hbX.mono (by simp))
 have zX:w.1.size<X.1.size:=rw0.lt
 rw [HOP.out] at rw0
 have p0:=rw0.cell 0 (by first|decide|simp)
 have p1:=rw0.cell 1 (by first|decide|simp)
 have p2:=rw0.cell 2 (by first|decide|simp)
 have p3:=rw0.cell 3 (by first|decide|simp)
 have p4:=rw0.cell 4 (by first|decide|simp)
 have p5:=rw0.cell 5 (by first|decide|simp)
 simp only [vec,List.getD_cons_zero,List.getD_cons_succ] at p0 p1 p2 p3 p4 p5
 have RW0:=hid rw0
 have HBX:=hid hbX'
 clear hbX hbX' rw0 hB
 go_wp2_with fail
 have B2:=fun o1 o2=>HBX.out.trans (((below_alloc X o1).trans ((below_alloc (X.alloc o1) o2).mono (by simp))).mono (Nat.le_of_lt zX))
 refine (op4_any (HIN.out.dk (B2 _ _) (desk_new K B v 4 HOP.out.symm) (by simp;omega)) HOP.out).mono ?_
 rintro e w9 ⟨hb9,hpost⟩
 have z9:=hb9.size
 have DK9:=hid (fun (o:Obj)=>(HIN.out.dk (B2 _ _) (desk_new K B v 4 HOP.out.symm) (by simp;omega)).grow (hb9.trans ((below_alloc w9 o).mono hb9.size)))
 have zD9:w.1.size≤X.1.size:=Nat.le_of_lt zX
 have HB9:=hid ((B2 _ _).trans (hb9.mono (by simp;omega)))
 have r9:=(RW0.out.below (((below_alloc X _).trans ((below_alloc (X.alloc _) _).mono (by simp))).trans (hb9.mono (by simp;omega))) RW0.out.lt)
 have kr9:=HIN.out.kr.below HB9.out zK
 have zK9:K<w9.1.size:=kr9.lt
 have zW9:w.1.size<w9.1.size:=r9.lt
 clear p0 p1 p2 p3 p4 p5
 have p0:=r9.cell 0 (by first|decide|simp)
 have p1:=r9.cell 1 (by first|decide|simp)
 have p2:=r9.cell 2 (by first|decide|simp)
 have p3:=r9.cell 3 (by first|decide|simp)
 have p4:=r9.cell 4 (by first|decide|simp)
 have p5:=r9.cell 5 (by first|decide|simp)
 simp only [vec,List.getD_cons_zero,List.getD_cons_succ] at p0 p1 p2 p3 p4 p5
 have kk0:=kr9.cell 0 (by decide)
 simp only [vec,List.getD_cons_zero] at kk0
 clear hb9 B2 r9 kr9
 rcases hpost with ⟨hc,rfl⟩|⟨hc,E,hE,rfl,hE2,hE3⟩
 ·have hcc:wCode B v=oCode B v:=if_neg hc
  have HFIN:=hid (show ∀ w',Below w.1.size w w'→IntoP B v L Pst w (.returned (.iface 146 (.agg #[.int .i64 4,.string v.kind,.string v.name,.int .i64 v.seen,.string v.text,.string v.hold,.iface 90 (.agg #[.int .i64 (oCode B v),.int .i64 (oVer B v)])]))) w' from fun w' hb=>Or.inl ⟨by rw [hcc];exact hc,by rw [hcc,HOP.out],hb⟩)
  clear hc hcc
  go_wp2
  go_ret
  exact HFIN.out _ (by repeat (first|with_reducible exact HB9.out|with_reducible refine Below.setCell ?_ (by first|omega|(simp;omega)) _|with_reducible refine Below.alloc ?_ (by first|omega|(simp;omega)) _))
 ·have hov:oVer B v=0:=if_neg (by rw [hc];decide)
  by_cases hm:B.now=1000000
  ·have hcc:wCode B v=8:=by unfold wCode;rw [if_pos hc,if_pos (by omega)]
   have HFIN:=hid (show ∀ w',Below w.1.size w w'→IntoP B v L Pst w (.returned (.iface 146 (.agg #[.int .i64 4,.string v.kind,.string v.name,.int .i64 v.seen,.string v.text,.string v.hold,.iface 90 (.agg #[.int .i64 8,.int .i64 0])]))) w' from fun w' hb=>Or.inl ⟨by rw [hcc];decide,by rw [hcc,HOP.out,hov],hb⟩)
   rw [hm] at kk0
   clear hc hcc hm hov hE hE2 hE3
   go_wp2
   go_ret
   exact HFIN.out _ (by repeat (first|with_reducible exact HB9.out|with_reducible refine Below.setCell ?_ (by first|omega|(simp;omega)) _|with_reducible refine Below.alloc ?_ (by first|omega|(simp;omega)) _))
  ·have h1:=HIN.out.ok.now1
   have hcc:wCode B v=0:=by unfold wCode;rw [if_pos hc,if_neg (by omega)]
   have HE:=hid (show EOk B v L w w9 E from ⟨hE,hE2,by
    rcases hE3 with q|⟨q1,q2,q3,q4,q5⟩
    ·exact Or.inl q
    ·exact Or.inr ⟨q1,q2,Nat.le_trans (by simp;omega) q3,q4,q5⟩⟩)
   have hm1:(B.now==1000000)=false:=by simpa using hm
   have HCC:=hid hcc
   clear hc hcc hm hov hE hE2 hE3 h1
   go_wp2_with fail
   refine (HP.out X.1.size _ E (HB9.out.trans ((below_alloc w9 _).mono (Nat.le_of_lt zW9))) (DK9.out _) zD9 (HE.out.grow (below_alloc w9 _)) HCC.out).mono ?_
   rintro e w10 ⟨rfl,hst⟩
   have HFIN:=hid (show IntoP B v L Pst w (.returned .nilIface) w10 from Or.inr ⟨HCC.out,rfl,E,_,HB9.out.trans ((below_alloc w9 _).mono (Nat.le_of_lt zW9)),HE.out.grow (below_alloc w9 _),hst⟩)
   clear hst
   go_wp2
   go_ret
   exact HFIN.out
theorem into_5 (K g:Nat) (B:Bk) (v:Wr) (L:List EO) (a1:Option Addr) (c1:Nat) (k1 k3 k4:Value) (Pst:EO→World→World→Prop) (w:World) (hin:WS w K g B v L a1 c1 k1 k3 k4) (hop:v.op=5)
  (hP:∀ D X E,Below w.1.size w X→DkIn X D K g B v L a1 c1 (plW B v) (foB B v)→w.1.size≤D→EOk B v L w X E→wCode B v=0→Calls Tryz.prog 102 #[.pointer (some ⟨D,0,none⟩),obV E] X fun e w'=>e=.returned (.tuple #[])∧Pst E X w') :
  Calls Tryz.prog 43 #[.pointer (some ⟨K,0,none⟩),.agg #[.int .i64 v.op,.string v.kind,.string v.name,.int .i64 v.seen,.string v.text,.string v.hold]] w (IntoP B v L Pst w):=by
 have HIN:=hid hin
 have HOP:=hid hop
 have HP:=hid hP
 have zK:=hin.kr.lt
 have hB:=below_alloc w (.cells #[.int .i64 v.op,.string v.kind,.string v.name,.int .i64 v.seen,.string v.text,.string v.hold] 40)
 have hk2:=hin.kr.cell 2 (by decide)
 simp only [vec,List.getD_cons_zero,List.getD_cons_succ] at hk2
 clear hin hop hP hk2
 go_enter Tryz.func43,Tryz.ntmps43
 go_wp2_with fail
 refine wiReg1 _ _ _ _ _ _ _ _ _ _ _ _ _ _ _ _ _ _ _ _ _ _ _ _ _ _ _ _ _ _ _ _ _ _ _ _ _ _ _ _ _ _ _ _ _ (fun _=>undef) K w.1.size B v a1 c1 _ (by simp;omega) ((HIN.out.kr.below hB zK).cell 2 (by decide)) (RowF.new (w:=w) (l:=[.int .i64 v.op,.string v.kind,.string v.name,.int .i64 v.seen,.string v.text,.string v.hold]) (t:=40) (Below.refl _ _)) ((HIN.out.objs.below hB (Nat.le_refl _)).up hB.size) HIN.out.ok _ ?_
 intro t X hbX
 have rw0:=RowF.new (w:=w) (l:=[.int .i64 v.op,.string v.kind,.string v.name,.int .i64 v.seen,.string v.text,.string v.hold]) (t:=40) hbX
 have hbX':=hB.trans (hbX.mono (by simp))
 have zX:w.1.size<X.1.size:=rw0.lt
 rw [HOP.out] at rw0
 have p0:=rw0.cell 0 (by first|decide|simp)
 have p1:=rw0.cell 1 (by first|decide|simp)
 have p2:=rw0.cell 2 (by first|decide|simp)
 have p3:=rw0.cell 3 (by first|decide|simp)
 have p4:=rw0.cell 4 (by first|decide|simp)
 have p5:=rw0.cell 5 (by first|decide|simp)
 simp only [vec,List.getD_cons_zero,List.getD_cons_succ] at p0 p1 p2 p3 p4 p5
 have RW0:=hid rw0
 have HBX:=hid hbX'
 clear hbX hbX' rw0 hB
 go_wp2_with fail
 have B2:=fun o1 o2=>HBX.out.trans (((below_alloc X o1).trans ((below_alloc (X.alloc o1) o2).mono (by simp))).mono (Nat.le_of_lt zX))
 refine (op5_any (HIN.out.dk (B2 _ _) (desk_new K B v 5 HOP.out.symm) (by simp;omega)) HOP.out).mono ?_
 rintro e w9 ⟨hb9,hpost⟩
 have z9:=hb9.size
 have DK9:=hid (fun (o:Obj)=>(HIN.out.dk (B2 _ _) (desk_new K B v 5 HOP.out.symm) (by simp;omega)).grow (hb9.trans ((below_alloc w9 o).mono hb9.size)))
 have zD9:w.1.size≤X.1.size:=Nat.le_of_lt zX
 have HB9:=hid ((B2 _ _).trans (hb9.mono (by simp;omega)))
 have r9:=(RW0.out.below (((below_alloc X _).trans ((below_alloc (X.alloc _) _).mono (by simp))).trans (hb9.mono (by simp;omega))) RW0.out.lt)
 have kr9:=HIN.out.kr.below HB9.out zK
 have zK9:K<w9.1.size:=kr9.lt
 have zW9:w.1.size<w9.1.size:=r9.lt
 clear p0 p1 p2 p3 p4 p5
 have p0:=r9.cell 0 (by first|decide|simp)
 have p1:=r9.cell 1 (by first|decide|simp)
 have p2:=r9.cell 2 (by first|decide|simp)
 have p3:=r9.cell 3 (by first|decide|simp)
 have p4:=r9.cell 4 (by first|decide|simp)
 have p5:=r9.cell 5 (by first|decide|simp)
 simp only [vec,List.getD_cons_zero,List.getD_cons_succ] at p0 p1 p2 p3 p4 p5
 have kk0:=kr9.cell 0 (by decide)
 simp only [vec,List.getD_cons_zero] at kk0
 clear hb9 B2 r9 kr9
 rcases hpost with ⟨hc,rfl⟩|⟨hc,E,hE,rfl,hE2,hE3⟩
 ·have hcc:wCode B v=oCode B v:=if_neg hc
  have HFIN:=hid (show ∀ w',Below w.1.size w w'→IntoP B v L Pst w (.returned (.iface 146 (.agg #[.int .i64 5,.string v.kind,.string v.name,.int .i64 v.seen,.string v.text,.string v.hold,.iface 90 (.agg #[.int .i64 (oCode B v),.int .i64 (oVer B v)])]))) w' from fun w' hb=>Or.inl ⟨by rw [hcc];exact hc,by rw [hcc,HOP.out],hb⟩)
  clear hc hcc
  go_wp2
  go_ret
  exact HFIN.out _ (by repeat (first|with_reducible exact HB9.out|with_reducible refine Below.setCell ?_ (by first|omega|(simp;omega)) _|with_reducible refine Below.alloc ?_ (by first|omega|(simp;omega)) _))
 ·have hov:oVer B v=0:=if_neg (by rw [hc];decide)
  by_cases hm:B.now=1000000
  ·have hcc:wCode B v=8:=by unfold wCode;rw [if_pos hc,if_pos (by omega)]
   have HFIN:=hid (show ∀ w',Below w.1.size w w'→IntoP B v L Pst w (.returned (.iface 146 (.agg #[.int .i64 5,.string v.kind,.string v.name,.int .i64 v.seen,.string v.text,.string v.hold,.iface 90 (.agg #[.int .i64 8,.int .i64 0])]))) w' from fun w' hb=>Or.inl ⟨by rw [hcc];decide,by rw [hcc,HOP.out,hov],hb⟩)
   rw [hm] at kk0
   clear hc hcc hm hov hE hE2 hE3
   go_wp2
   go_ret
   exact HFIN.out _ (by repeat (first|with_reducible exact HB9.out|with_reducible refine Below.setCell ?_ (by first|omega|(simp;omega)) _|with_reducible refine Below.alloc ?_ (by first|omega|(simp;omega)) _))
  ·have h1:=HIN.out.ok.now1
   have hcc:wCode B v=0:=by unfold wCode;rw [if_pos hc,if_neg (by omega)]
   have HE:=hid (show EOk B v L w w9 E from ⟨hE,hE2,by
    rcases hE3 with q|⟨q1,q2,q3,q4,q5⟩
    ·exact Or.inl q
    ·exact Or.inr ⟨q1,q2,Nat.le_trans (by simp;omega) q3,q4,q5⟩⟩)
   have hm1:(B.now==1000000)=false:=by simpa using hm
   have HCC:=hid hcc
   clear hc hcc hm hov hE hE2 hE3 h1
   go_wp2_with fail
   refine (HP.out X.1.size _ E (HB9.out.trans ((below_alloc w9 _).mono (Nat.le_of_lt zW9))) (DK9.out _) zD9 (HE.out.grow (below_alloc w9 _)) HCC.out).mono ?_
   rintro e w10 ⟨rfl,hst⟩
   have HFIN:=hid (show IntoP B v L Pst w (.returned .nilIface) w10 from Or.inr ⟨HCC.out,rfl,E,_,HB9.out.trans ((below_alloc w9 _).mono (Nat.le_of_lt zW9)),HE.out.grow (below_alloc w9 _),hst⟩)
   clear hst
   go_wp2
   go_ret
   exact HFIN.out
end Go.Proofs.YtllmmkchokkaaaaGreatDoor
