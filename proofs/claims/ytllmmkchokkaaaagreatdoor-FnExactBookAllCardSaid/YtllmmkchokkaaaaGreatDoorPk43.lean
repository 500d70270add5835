import Derived.Test.YtllmmkchokkaaaaGreatDoorPk40
import Derived.Test.YtllmmkchokkaaaaGreatDoorPk21
import Derived.Test.YtllmmkchokkaaaaGreatDoorPk22
set_option maxRecDepth 100000
namespace Go.Proofs.YtllmmkchokkaaaaGreatDoor
open Go.RowKit Go.Maps
theorem BkIn.grow {w w':World} {lo:Nat} {x:Bk} {a1 a2 a3:Option Addr} (h:BkIn w lo w.1.size x a1 a2 a3) (hb:Below w.1.size w w'):BkIn w' lo w'.1.size x a1 a2 a3:=(h.below hb Zbt).upTo hb.size
theorem ne_box {w:World} {z b j:Nat} {s:ByteArray} (hn:∀ j s,¬w.cell? ⟨z,j,none⟩=some (.string s)) (h:w.cell? ⟨b,j,none⟩=some (.string s)):¬b=z:=fun e=>by
 subst e
 exact hn _ _ h
theorem BkIn.box {w w':World} {lo hi z:Nat} {x:Bk} {a1 a2 a3:Option Addr} (h:BkIn w lo hi x a1 a2 a3) (hf:FrP (fun q=>q=z) w w') (hn:∀ j s,¬w.cell? ⟨z,j,none⟩=some (.string s)) (hz:hi≤w.1.size):BkIn w' lo hi x a1 a2 a3:=by
 have cc:∀ {b j u},¬b=z→b<w.1.size→w.cell? ⟨b,j,none⟩=some u→w'.cell? ⟨b,j,none⟩=some u:=fun {b j u} h1 h2 h3=>(hf.cell (p:=⟨b,j,none⟩) h2 h1).trans h3
 have ss:∀ {ad n s},StrsIn w lo hi ad n s→StrsIn w' lo hi ad n s:=fun {ad n s} h i hi=>by
  obtain ⟨b,off,e1,e2,e3,e4⟩:=h i hi
  exact ⟨b,off,e1,e2,e3,cc (ne_box hn e4) Za e4⟩
 exact ⟨fun i h'=>by
  obtain ⟨b,off,ah,ch,e1,e2,e3,e4,e5⟩:=h.o i h'
  have c:∀ {j u},w.cell? ⟨b,j,none⟩=some u→w'.cell? ⟨b,j,none⟩=some u:=fun q=>cc (ne_box hn e4.c0) Za q
  exact ⟨b,off,ah,ch,e1,e2,e3,⟨c e4.c0,c e4.c1,c e4.c2,c e4.c3,c e4.c4,c e4.c5,c e4.c6⟩,ss e5⟩,
  fun i h'=>by
  obtain ⟨b,off,ah,ch,e1,e2,e3,e4,e5⟩:=h.h i h'
  have c:∀ {j u},w.cell? ⟨b,j,none⟩=some u→w'.cell? ⟨b,j,none⟩=some u:=fun q=>cc (ne_box hn e4.c2) Za q
  exact ⟨b,off,ah,ch,e1,e2,e3,⟨c e4.c0,c e4.c1,c e4.c2,c e4.c3,c e4.c4,c e4.c5,c e4.c6,c e4.c7,c e4.c8⟩,ss e5⟩,
  fun i h'=>by
  obtain ⟨b,off,e1,e2,e3,e4⟩:=h.t i h'
  have c:∀ {j u},w.cell? ⟨b,j,none⟩=some u→w'.cell? ⟨b,j,none⟩=some u:=fun q=>cc (ne_box hn e4.c0) Za q
  exact ⟨b,off,e1,e2,e3,⟨c e4.c0,c e4.c1,c e4.c2,c e4.c3,c e4.c4⟩⟩⟩
theorem hold_str {w:World} {b:Nat} {A:Option Addr} {n:Nat} {s:Nat→ByteArray} (h:StrsOwn w b (b+1) A n s) (h0:n≠0):∃ j s,w.cell? ⟨b,j,none⟩=some (.string s):=by
 obtain ⟨b',off,_,e2,e3,e4,_⟩:=h 0 Za
 obtain rfl:b'=b:=Za
 exact ⟨_,_,e4⟩
theorem BkAt.str {w:World} {x:Bk} {p:Pl} (h:BkAt w x p) {k:Nat} (hk:blkB p x k):∃ j s,w.cell? ⟨k,j,none⟩=some (.string s):=by
 rcases hk with h1|h1|h1
 ·rcases h1 with ⟨h0,rfl⟩|⟨i,hi,h0,rfl⟩
  ·obtain ⟨c,r,e⟩:=h.o.row h0
   exact ⟨_,_,(r.cell (0*7) Za).trans (congrArg some (e 0 h0).1)⟩
  ·exact hold_str (h.o.hold i hi) h0
 ·rcases h1 with ⟨h0,rfl⟩|⟨i,hi,h0,rfl⟩
  ·obtain ⟨c,r,e⟩:=h.h.row h0
   exact ⟨_,_,(r.cell (0*9+2) Za).trans (congrArg some (e 0 h0).2.2.1)⟩
  ·exact hold_str (h.h.hold i hi) h0
 ·obtain ⟨h0,rfl⟩:=h1
  obtain ⟨c,r,e⟩:=h.t.row h0
  exact ⟨_,_,(r.cell (0*5) Za).trans (congrArg some (e 0 h0).1)⟩
def zdd:List Value:=[.int .i64 0,.int .i64 0,.int .i64 0,.slice none 0 0,.slice none 0 0,.slice none 0 0,.int .i64 0]
structure Bx (w:World) (z:Nat):Prop where
 row:RowF w z 7 (vec zdd)
 no:∀ j s,¬w.cell? ⟨z,j,none⟩=some (.string s)
theorem Bx.grow {w w':World} {z:Nat} (h:Bx w z) (hb:Below w.1.size w w'):Bx w' z:=
 ⟨h.row.below hb h.row.lt,fun j s e=>h.no j s (by rw [←hb.cell (p:=⟨z,j,none⟩) h.row.lt];exact e)⟩
theorem bx_new (w:World):Bx (w.alloc (.cells #[.int .i64 0,.int .i64 0,.int .i64 0,.slice none 0 0,.slice none 0 0,.slice none 0 0,.int .i64 0] 37)) w.1.size:=
 ⟨RowF.new (l:=zdd) (t:=37) Zbv,fun j s e=>by
  rw [World.cell?_alloc_new] at e
  match j,e with
  | 0,e=>cases e
  | 1,e=>cases e
  | 2,e=>cases e
  | 3,e=>cases e
  | 4,e=>cases e
  | 5,e=>cases e
  | 6,e=>cases e
  | n+7,e=>simp at e⟩
theorem fr7 {w:World} {z:Nat} (v0 v1 v2 v3 v4 v5 v6:Value):FrP (fun q=>q=z) w (((((((w.setCell ⟨z,0,none⟩ v0).setCell ⟨z,1,none⟩ v1).setCell ⟨z,2,none⟩ v2).setCell ⟨z,3,none⟩ v3).setCell ⟨z,4,none⟩ v4).setCell ⟨z,5,none⟩ v5).setCell ⟨z,6,none⟩ v6):=
 (((((((FrP.refl (fun q=>q=z) w).setCell (p:=⟨z,0,none⟩) rfl v0).setCell (p:=⟨z,1,none⟩) rfl v1).setCell (p:=⟨z,2,none⟩) rfl v2).setCell (p:=⟨z,3,none⟩) rfl v3).setCell (p:=⟨z,4,none⟩) rfl v4).setCell (p:=⟨z,5,none⟩) rfl v5).setCell (p:=⟨z,6,none⟩) rfl v6
end Go.Proofs.YtllmmkchokkaaaaGreatDoor
