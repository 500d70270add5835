import Derived.Test.YtnnjcenacidceaaPk01
set_option maxRecDepth 100000
namespace Go.Proofs.Ytnnjcenacidceaa
open Go.RowKit Go.Proofs.Try
structure LK (w:World)(b o:Nat)(x:Ob)(ad:OA)(cap:Nat):Prop where c0:w.cell? ⟨b,o,none⟩=some (.s x.kind)c1:w.cell? ⟨b,o+1,none⟩=some (.s x.name)c2:w.cell? ⟨b,o+2,none⟩=some (.i x.ver)c3:w.cell? ⟨b,o+3,none⟩=some (.i x.born)c4:w.cell? ⟨b,o+4,none⟩=some (.s x.text)c5:w.cell? ⟨b,o+5,none⟩=some (.bool x.ending)c6:w.cell? ⟨b,o+6,none⟩=some (.slice ad x.hn cap)
def B4 (w:World)(lo hi:Nat)(ad:OA)(n:Nat)(x:Nat->Ob):Prop:=∀i,i<n->∃b off ah ch,ad=some ⟨b,off,none⟩/\lo<=b/\b<hi/\LK w b (off+i*7) (x i) ah ch/\AB w lo hi ah (x i).hn (x i).hs
structure Ef (x:Ob):Prop where
 k:(x.kind.size:Int)<=140737488355328
 n:(x.name.size:Int)<=140737488355328
 t:(x.text.size:Int)<=140737488355328
 h:(x.hn:Int)<=8796093022208
 s:∀i,i<x.hn->((x.hs i).size:Int)<=140737488355328
 v:(Lit.int .i64 x.ver).wf=true
structure Ch where
 ver:Int
 gone:Bool
 ob:Ob
structure Ti where
 client:ByteArray
 num:Int
 print:ByteArray
 code:Int
 ver:Int
abbrev vT (x:Ti):Array Value:=#[.s x.client,.i x.num,.s x.print,.i x.code,.i x.ver]
abbrev ax (x:Ti):List Value:=[.s x.client,.i x.num,.s x.print,.i x.code,.i x.ver]
structure Dk (w:World)(b o:Nat)(x:Ch)(ad:OA)(cap:Nat):Prop where c0:w.cell? ⟨b,o,none⟩=some (.i x.ver)c1:w.cell? ⟨b,o+1,none⟩=some (.bool x.gone)c2:w.cell? ⟨b,o+2,none⟩=some (.s x.ob.kind)c3:w.cell? ⟨b,o+3,none⟩=some (.s x.ob.name)c4:w.cell? ⟨b,o+4,none⟩=some (.i x.ob.ver)c5:w.cell? ⟨b,o+5,none⟩=some (.i x.ob.born)c6:w.cell? ⟨b,o+6,none⟩=some (.s x.ob.text)c7:w.cell? ⟨b,o+7,none⟩=some (.bool x.ob.ending)c8:w.cell? ⟨b,o+8,none⟩=some (.slice ad x.ob.hn cap)
structure Nh (w:World)(b o:Nat)(x:Ti):Prop where c0:w.cell? ⟨b,o,none⟩=some (.s x.client)c1:w.cell? ⟨b,o+1,none⟩=some (.i x.num)c2:w.cell? ⟨b,o+2,none⟩=some (.s x.print)c3:w.cell? ⟨b,o+3,none⟩=some (.i x.code)c4:w.cell? ⟨b,o+4,none⟩=some (.i x.ver)
def CO (w:World)(lo hi:Nat)(ad:OA)(n:Nat)(x:Nat->Ch):Prop:=∀i,i<n->∃b off ah ch,ad=some ⟨b,off,none⟩/\lo<=b/\b<hi/\Dk w b (off+i*9) (x i) ah ch/\AB w lo hi ah (x i).ob.hn (x i).ob.hs
def DZ (w:World)(lo hi:Nat)(ad:OA)(n:Nat)(x:Nat->Ti):Prop:=∀i,i<n->∃b off,ad=some ⟨b,off,none⟩/\lo<=b/\b<hi/\Nh w b (off+i*5) (x i)
structure UF (x:Ti):Prop where
 c:(x.client.size:Int)<=140737488355328
 p:(x.print.size:Int)<=140737488355328
structure Bk where
 now:Int
 floor:Int
 on:Nat
 os:Nat->Ob
 hn:Nat
 hs:Nat->Ch
 tn:Nat
 ts:Nat->Ti
abbrev vB (x:Bk)(a b c:OA)(d e f:Nat):Array Value:=#[.i x.now,.i x.floor,.l a x.on d,.l b x.hn e,.l c x.tn f]
abbrev Qq (x:Bk)(a b c:OA)(d e f:Nat):List Value:=[.i x.now,.i x.floor,.l a x.on d,.l b x.hn e,.l c x.tn f]
structure BL (x:Bk):Prop where
 o:(x.on:Int)<=1099511627776
 h:(x.hn:Int)<=1099511627776
 t:(x.tn:Int)<=1099511627776
 os:∀i,i<x.on->Ef (x.os i)hs:∀i,i<x.hn->Ef (x.hs i).ob
 ts:∀i,i<x.tn->UF (x.ts i)
structure BF (w:World)(lo hi:Nat)(x:Bk)(a1 a2 a3:OA):Prop where
 o:B4 w lo hi a1 x.on x.os
 h:CO w lo hi a2 x.hn x.hs
 t:DZ w lo hi a3 x.tn x.ts
theorem LK.below{w w':World}{B b o:Nat}{x:Ob}{ad:OA}{cap:Nat}(h:LK w b o x ad cap)(hb:Below B w w')(hB:b<B):LK w' b o x ad cap:=have e:∀j,w'.cell? ⟨b,j,none⟩=w.cell? ⟨b,j,none⟩:=λj=>hb.cell (p:=⟨b,j,none⟩) hB
 ⟨(e _).trans h.c0,(e _).trans h.c1,(e _).trans h.c2,(e _).trans h.c3,(e _).trans h.c4,(e _).trans h.c5,(e _).trans h.c6⟩
theorem Dk.below{w w':World}{B b o:Nat}{x:Ch}{ad:OA}{cap:Nat}(h:Dk w b o x ad cap)(hb:Below B w w')(hB:b<B):Dk w' b o x ad cap:=have e:∀j,w'.cell? ⟨b,j,none⟩=w.cell? ⟨b,j,none⟩:=λj=>hb.cell (p:=⟨b,j,none⟩) hB
 ⟨(e _).trans h.c0,(e _).trans h.c1,(e _).trans h.c2,(e _).trans h.c3,(e _).trans h.c4,(e _).trans h.c5,(e _).trans h.c6,(e _).trans h.c7,(e _).trans h.c8⟩
theorem Nh.below{w w':World}{B b o:Nat}{x:Ti}(h:Nh w b o x)(hb:Below B w w')(hB:b<B):Nh w' b o x:=have e:∀j,w'.cell? ⟨b,j,none⟩=w.cell? ⟨b,j,none⟩:=λj=>hb.cell (p:=⟨b,j,none⟩) hB
 ⟨(e _).trans h.c0,(e _).trans h.c1,(e _).trans h.c2,(e _).trans h.c3,(e _).trans h.c4⟩
theorem B4.below{w w':World}{B lo hi:Nat}{ad:OA}{n:Nat}{x:Nat->Ob}(h:B4 w lo hi ad n x)(hb:Below B w w')(hB:hi<=B):B4 w' lo hi ad n x:=λi hi'=>by obtain⟨b,off,ah,ch,e1,e2,e3,e4,e5⟩:=h i hi';exact⟨b,off,ah,ch,e1,e2,e3,e4.below hb Za,e5.below hb hB⟩
theorem CO.below{w w':World}{B lo hi:Nat}{ad:OA}{n:Nat}{x:Nat->Ch}(h:CO w lo hi ad n x)(hb:Below B w w')(hB:hi<=B):CO w' lo hi ad n x:=λi hi'=>by obtain⟨b,off,ah,ch,e1,e2,e3,e4,e5⟩:=h i hi';exact⟨b,off,ah,ch,e1,e2,e3,e4.below hb Za,e5.below hb hB⟩
theorem DZ.below{w w':World}{B lo hi:Nat}{ad:OA}{n:Nat}{x:Nat->Ti}(h:DZ w lo hi ad n x)(hb:Below B w w')(hB:hi<=B):DZ w' lo hi ad n x:=λi hi'=>by obtain⟨b,off,e1,e2,e3,e4⟩:=h i hi';exact⟨b,off,e1,e2,e3,e4.below hb Za⟩
theorem BF.below{w w':World}{B lo hi:Nat}{x:Bk}{a1 a2 a3:OA}(h:BF w lo hi x a1 a2 a3)(hb:Below B w w')(hB:hi<=B):BF w' lo hi x a1 a2 a3:=⟨h.o.below hb hB,h.h.below hb hB,h.t.below hb hB⟩
theorem An (w:World)(o:Obj):Below w.1.size w (w.alloc o):=(Ao _ _).alloc uK o
theorem Ar{w w1:World}{c:Array Value}{t:TypeId}(hb:Below (w.alloc (.cells c t)).1.size (w.alloc (.cells c t)) w1)(i:Nat):w1.cell? ⟨w.1.size,i,none⟩=c[i]?:=(hb.cell (p:=⟨w.1.size,i,none⟩) Zc).trans (Ak w c t i)
theorem Bz.fr{w w':World}{lo hi lo2 hi2:Nat}{ad:OA}{n:Nat}{s:Nat->ByteArray}(h:Bz w lo hi ad n s)(hb:Fr lo2 hi2 w w')(hw:hi<=w.1.size)(ho:hi<=lo2\/hi2<=lo):Bz w' lo hi ad n s:=λi hi'=>by obtain⟨b,off,e1,e2,e3,e4,e5⟩:=h i hi';exact⟨b,off,e1,e2,e3,(hb.cell (p:=⟨b,off+i,none⟩) (Ac e3 hw) (by show b<_\/_<=b;omega)).trans e4,(hb.frozen (p:=⟨b,off+i,none⟩) (Ac e3 hw) (by show b<_\/_<=b;omega)).trans e5⟩
theorem Bz.mono{w:World}{lo hi lo2 hi2:Nat}{ad:OA}{n:Nat}{s:Nat->ByteArray}(h:Bz w lo hi ad n s)(h1:lo2<=lo)(h2:hi<=hi2):Bz w lo2 hi2 ad n s:=λi hi'=>by obtain⟨b,off,e1,e2,e3,e4,e5⟩:=h i hi';exact⟨b,off,e1,Za,Za,e4,e5⟩
theorem Bj (w:World)(a:Addr)(v:Value):(w.setCell a v).1.size=w.1.size:=by simp[World.setCell]
end Go.Proofs.Ytnnjcenacidceaa
