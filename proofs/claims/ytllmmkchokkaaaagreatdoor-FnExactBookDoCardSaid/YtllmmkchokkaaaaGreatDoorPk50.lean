import Derived.Test.YtllmmkchokkaaaaGreatDoorPk48
import Derived.Test.YtllmmkchokkaaaaGreatDoorPk13
import Derived.Test.YtllmmkchokkaaaaGreatDoorPk49
import Derived.Test.YtllmmkchokkaaaaGreatDoorPk21
import Derived.Test.YtllmmkchokkaaaaGreatDoorPk24
set_option maxRecDepth 100000
set_option maxHeartbeats 8000000
namespace Go.Proofs.YtllmmkchokkaaaaGreatDoor
open Go.RowKit Go.Maps
theorem BkIn.upTo {w:World} {lo hi hi':Nat} {x:Bk} {a1 a2 a3:Option Addr} (h:BkIn w lo hi x a1 a2 a3) (hh:hi≤hi'):BkIn w lo hi' x a1 a2 a3:=
 ⟨fun i h'=>by
  obtain ⟨b,off,ah,ch,e1,e2,e3,e4,e5⟩:=h.o i h'
  refine ⟨b,off,ah,ch,e1,e2,by omega,e4,fun j hj=>?_⟩
  obtain ⟨b',off',g1,g2,g3,g4⟩:=e5 j hj
  exact ⟨b',off',g1,g2,by omega,g4⟩,fun i h'=>by
  obtain ⟨b,off,ah,ch,e1,e2,e3,e4,e5⟩:=h.h i h'
  refine ⟨b,off,ah,ch,e1,e2,by omega,e4,fun j hj=>?_⟩
  obtain ⟨b',off',g1,g2,g3,g4⟩:=e5 j hj
  exact ⟨b',off',g1,g2,by omega,g4⟩,fun i h'=>by
  obtain ⟨b,off,e1,e2,e3,e4⟩:=h.t i h'
  exact ⟨b,off,e1,e2,by omega,e4⟩⟩
theorem lim_of_sz {x:Bk} (h:szBk x≤1048576):(x.on:Int)≤1048576∧(x.hn:Int)≤1048576∧(x.tn:Int)≤1048576:=by
 unfold szBk szObs szChs szTis at h
 omega
theorem fit_bk0:BkFit bk0:=⟨by decide,by decide,by decide,fun i hi=>absurd hi (Nat.not_lt_zero _),fun i hi=>absurd hi (Nat.not_lt_zero _),fun i hi=>absurd hi (Nat.not_lt_zero _)⟩
structure DidFit (y:Bk):Prop where
 fit:BkFit y
 o:(y.on:Int)≤1048576
 h:(y.hn:Int)≤1048576
 t:(y.tn:Int)≤1048576
 m:(mkBk 1 y:Int)≤1073741824
theorem didFit0:DidFit bk0:=⟨fit_bk0,by decide,by decide,by decide,by decide⟩
theorem did_all {B:Bk} {v:Wr} (hf:BkFit B) (wf:WrFit v) (hs:szBk B≤1048576):DidFit (didB B v):=by
 cases hv:allTo (chk B) 7 with
 | false=>
  have e:didB B v=bk0:=by unfold didB goB;rw [hv];rfl
  rw [e]
  exact didFit0
 | true=>
  cases hw:wrB v with
  | false=>
   have e:didB B v=bk0:=by unfold didB goB;rw [hv,hw];rfl
   rw [e]
   exact didFit0
  | true=>
   have hok:=wok_of hf hv hw wf
   obtain ⟨h1,h2,h3,h4⟩:=did_fit hok hv (lim_of_sz hs).2.2
   exact ⟨h1,h2,h3,h4,did_marks hok hv hs⟩
def wrCells (v:Wr):Array Value:=#[.int .i64 v.op,.string v.kind,.string v.name,.int .i64 v.seen,.string v.text,.string v.hold]
theorem holds_wr {W:World} {B:Nat} {v:Wr} (h:Holds W B (wrCells v)) :
  W.cell? ⟨B,0,none⟩=some (.int .i64 v.op)∧W.cell? ⟨B,1,none⟩=some (.string v.kind)∧W.cell? ⟨B,2,none⟩=some (.string v.name)∧W.cell? ⟨B,3,none⟩=some (.int .i64 v.seen)∧W.cell? ⟨B,4,none⟩=some (.string v.text)∧W.cell? ⟨B,5,none⟩=some (.string v.hold):=
 ⟨h 0,h 1,h 2,h 3,h 4,h 5⟩
def HoldN (W:World) (B:Nat) (c:List Value):Prop:=∀ j,j<c.length→W.cell? ⟨B,j,none⟩=some (vec c j)
theorem HoldN.below {W W':World} {B n:Nat} {c:List Value} (h:HoldN W B c) (hb:Below n W W') (hB:B<n):HoldN W' B c:=fun j hj=>(hb.cell (p:=⟨B,j,none⟩) hB).trans (h j hj)
theorem HoldN.frP {W W':World} {B:Nat} {c:List Value} {P:Nat→Prop} (h:HoldN W B c) (hf:FrP P W W') (hB:B<W.1.size) (hp:¬P B):HoldN W' B c:=fun j hj=>(hf.cell (p:=⟨B,j,none⟩) hB hp).trans (h j hj)
def ddCells (co:Int) (x:Bk) (ve:Int) (a1 a2 a3:Option Addr) (c1 c2 c3:Nat):List Value:=[.int .i64 co,.int .i64 x.now,.int .i64 x.floor,.slice a1 x.on c1,.slice a2 x.hn c2,.slice a3 x.tn c3,.int .i64 ve]
theorem holds_dd {W:World} {B:Nat} {co ve:Int} {x:Bk} {a1 a2 a3:Option Addr} {c1 c2 c3:Nat} (h:HoldN W B (ddCells co x ve a1 a2 a3 c1 c2 c3)) :
  W.cell? ⟨B,0,none⟩=some (.int .i64 co)∧W.cell? ⟨B,1,none⟩=some (.int .i64 x.now)∧W.cell? ⟨B,2,none⟩=some (.int .i64 x.floor)∧W.cell? ⟨B,3,none⟩=some (.slice a1 x.on c1)∧W.cell? ⟨B,4,none⟩=some (.slice a2 x.hn c2)∧W.cell? ⟨B,5,none⟩=some (.slice a3 x.tn c3)∧W.cell? ⟨B,6,none⟩=some (.int .i64 ve):=
 ⟨h 0 (by simp [ddCells]),h 1 (by simp [ddCells]),h 2 (by simp [ddCells]),h 3 (by simp [ddCells]),h 4 (by simp [ddCells]),h 5 (by simp [ddCells]),h 6 (by simp [ddCells])⟩
theorem Holds.frP {W W':World} {B:Nat} {c:Array Value} {P:Nat→Prop} (h:Holds W B c) (hf:FrP P W W') (hB:B<W.1.size) (hp:¬P B):Holds W' B c:=fun i=>(hf.cell (p:=⟨B,i,none⟩) hB hp).trans (h i)
theorem BkOwn.isIn {w:World} {lo hi:Nat} {x:Bk} {g1 g2 g3:Nat} (h:BkOwn w lo hi x g1 g2 g3):BkIn w lo w.1.size x (some ⟨g1,0,none⟩) (some ⟨g2,0,none⟩) (some ⟨g3,0,none⟩):=by
 obtain ⟨p,h1,h2,h3,h4,h5⟩:=h.at
 have:=h4.isIn (lo:=lo) (fun q hq=>(h5 q hq).1)
 rw [h1,h2,h3] at this
 exact this
structure DL (W:World) (s0:Nat) (x:Bk) (v:Wr) (a1 a2 a3:Option Addr) (c1 c2 c3:Nat) (co:Int) (y:Bk) (ve:Int) (n1 n2 zw zx zg:Nat) (b1 b2 b3:Option Addr) (e1 e2 e3:Nat) (p:Pl) (d1 d2 d3:Nat) (g:Pl) (f1 f2 f3:Nat) (xm ym:Bk):Prop where
 bx:Holds W s0 (bkCells x a1 a2 a3 c1 c2 c3)
 bv:Holds W (s0+1) (wrCells v)
 arg:BkIn W 0 s0 x a1 a2 a3
 vw:HoldN W zw (ddCells co y ve b1 b2 b3 e1 e2 e3)
 ww:BkIn W 0 n1 y b1 b2 b3
 vx:Holds W zx (bkCells x p.a1 p.a2 p.a3 d1 d2 d3)
 xx:BkAt W xm p
 xb:∀ q,blkB p xm q→n1≤q∧q<zx
 vg:HoldN W zg (ddCells co y ve g.a1 g.a2 g.a3 f1 f2 f3)
 gg:BkAt W ym g
 gb:∀ q,blkB g ym q→n2≤q∧¬q=zg
 o0:s0+1<n1
 o1:zw<n1
 o2:n1≤zx
 o3:zx<n2
 o5:n2≤zg
 o4:zg<W.1.size
section
variable {W W':World} {s0:Nat} {x:Bk} {v:Wr} {a1 a2 a3:Option Addr} {c1 c2 c3:Nat} {co:Int} {y:Bk} {ve:Int} {n1 n2 zw zx zg:Nat} {b1 b2 b3:Option Addr} {e1 e2 e3:Nat} {p:Pl} {d1 d2 d3:Nat} {g:Pl} {f1 f2 f3:Nat} {xm ym:Bk}
theorem DL.below (h:DL W s0 x v a1 a2 a3 c1 c2 c3 co y ve n1 n2 zw zx zg b1 b2 b3 e1 e2 e3 p d1 d2 d3 g f1 f2 f3 xm ym) (hb:Below W.1.size W W'):DL W' s0 x v a1 a2 a3 c1 c2 c3 co y ve n1 n2 zw zx zg b1 b2 b3 e1 e2 e3 p d1 d2 d3 g f1 f2 f3 xm ym:=by
 have h0:=h.o0
 have h1:=h.o1
 have h5:=h.o5
 have h2:=h.o2
 have h3:=h.o3
 have h4:=h.o4
 exact ⟨h.bx.below hb (by omega),h.bv.below hb (by omega),h.arg.below hb (by omega),h.vw.below hb (by omega),h.ww.below hb (by omega),h.vx.below hb (by omega),h.xx.grow hb,h.xb,h.vg.below hb (by omega),h.gg.grow hb,h.gb,h0,h1,h2,h3,h5,Nat.lt_of_lt_of_le h4 hb.size⟩
theorem DL.markX (h:DL W s0 x v a1 a2 a3 c1 c2 c3 co y ve n1 n2 zw zx zg b1 b2 b3 e1 e2 e3 p d1 d2 d3 g f1 f2 f3 xm ym) (k0:Nat) (hx:BkAt W' (ykBk k0 xm) p) (hf:FrP (blkB p xm) W W'):DL W' s0 x v a1 a2 a3 c1 c2 c3 co y ve n1 n2 zw zx zg b1 b2 b3 e1 e2 e3 p d1 d2 d3 g f1 f2 f3 (ykBk k0 xm) ym:=by
 have h0:=h.o0
 have h1:=h.o1
 have h5:=h.o5
 have h2:=h.o2
 have h3:=h.o3
 have h4:=h.o4
 have hB:Below n1 W W':=hf.below (B:=n1) (fun q hq e=>by have:=h.xb _ e;omega) (by omega)
 exact ⟨h.bx.below hB (by omega),h.bv.below hB (by omega),h.arg.below hB (by omega),h.vw.frP hf (by omega) (fun e=>by have:=h.xb _ e;omega),h.ww.below hB (Nat.le_refl _),h.vx.frP hf (by omega) (fun e=>by have:=h.xb _ e;omega),hx,by rw [blkB_yk];exact h.xb,h.vg.frP hf (by omega) (fun e=>by have:=h.xb _ e;omega),h.gg.fr hf (fun q hq e=>by have a:=h.gb q hq;have b:=h.xb _ e;omega),h.gb,h0,h1,h2,h3,h5,Nat.lt_of_lt_of_le h4 hf.size⟩
theorem DL.markG (h:DL W s0 x v a1 a2 a3 c1 c2 c3 co y ve n1 n2 zw zx zg b1 b2 b3 e1 e2 e3 p d1 d2 d3 g f1 f2 f3 xm ym) (k0:Nat) (hg:BkAt W' (ykBk k0 ym) g) (hf:FrP (blkB g ym) W W'):DL W' s0 x v a1 a2 a3 c1 c2 c3 co y ve n1 n2 zw zx zg b1 b2 b3 e1 e2 e3 p d1 d2 d3 g f1 f2 f3 xm (ykBk k0 ym):=by
 have h0:=h.o0
 have h1:=h.o1
 have h5:=h.o5
 have h2:=h.o2
 have h3:=h.o3
 have h4:=h.o4
 have hB:Below n2 W W':=hf.below (B:=n2) (fun q hq e=>by have:=h.gb _ e;omega) (by omega)
 exact ⟨h.bx.below hB (by omega),h.bv.below hB (by omega),h.arg.below hB (by omega),h.vw.below hB (by omega),h.ww.below hB (by omega),h.vx.frP hf (by omega) (fun e=>by have:=h.gb _ e;omega),h.xx.fr hf (fun q hq e=>by have a:=h.xb q hq;have b:=h.gb _ e;omega),h.xb,h.vg.frP hf (by omega) (fun e=>by have:=h.gb _ e;omega),hg,by rw [blkB_yk];exact h.gb,h0,h1,h2,h3,h5,Nat.lt_of_lt_of_le h4 hf.size⟩
theorem DL.lowX (h:DL W s0 x v a1 a2 a3 c1 c2 c3 co y ve n1 n2 zw zx zg b1 b2 b3 e1 e2 e3 p d1 d2 d3 g f1 f2 f3 xm ym) (hf:FrP (blkB p xm) W W'):Below s0 W W':=by
 have h0:=h.o0
 have h1:=h.o1
 have h5:=h.o5
 have h2:=h.o2
 have h3:=h.o3
 have h4:=h.o4
 exact hf.below (B:=s0) (fun k hk e=>by have:=h.xb _ e;omega) (by omega)
theorem DL.lowG (h:DL W s0 x v a1 a2 a3 c1 c2 c3 co y ve n1 n2 zw zx zg b1 b2 b3 e1 e2 e3 p d1 d2 d3 g f1 f2 f3 xm ym) (hf:FrP (blkB g ym) W W'):Below s0 W W':=by
 have h0:=h.o0
 have h1:=h.o1
 have h5:=h.o5
 have h2:=h.o2
 have h3:=h.o3
 have h4:=h.o4
 exact hf.below (B:=s0) (fun k hk e=>by have:=h.gb _ e;omega) (by omega)
theorem DL.win (h:DL W s0 x v a1 a2 a3 c1 c2 c3 co y ve n1 n2 zw zx zg b1 b2 b3 e1 e2 e3 p d1 d2 d3 g f1 f2 f3 xm ym):BkIn W 0 W.1.size y b1 b2 b3:=by
 have h2:=h.o2
 have h3:=h.o3
 have h4:=h.o4
 have h5:=h.o5
 exact h.ww.upTo (by omega)
end
theorem BkIn.grow {w w':World} {lo:Nat} {x:Bk} {a1 a2 a3:Option Addr} (h:BkIn w lo w.1.size x a1 a2 a3) (hb:Below w.1.size w w'):BkIn w' lo w'.1.size x a1 a2 a3:=(h.below hb (Nat.le_refl _)).upTo hb.size
theorem ne_box {w:World} {z b j:Nat} {s:ByteArray} (hn:∀ j s,¬w.cell? ⟨z,j,none⟩=some (.string s)) (h:w.cell? ⟨b,j,none⟩=some (.string s)):¬b=z:=fun e=>by
 subst e
 exact hn _ _ h
theorem BkIn.box {w w':World} {lo hi z:Nat} {x:Bk} {a1 a2 a3:Option Addr} (h:BkIn w lo hi x a1 a2 a3) (hf:FrP (fun q=>q=z) w w') (hn:∀ j s,¬w.cell? ⟨z,j,none⟩=some (.string s)) (hz:hi≤w.1.size):BkIn w' lo hi x a1 a2 a3:=by
 have cc:∀ {b j u},¬b=z→b<w.1.size→w.cell? ⟨b,j,none⟩=some u→w'.cell? ⟨b,j,none⟩=some u:=fun {b j u} h1 h2 h3=>(hf.cell (p:=⟨b,j,none⟩) h2 h1).trans h3
 have ss:∀ {ad n s},StrsIn w lo hi ad n s→StrsIn w' lo hi ad n s:=fun {ad n s} h i hi=>by
  obtain ⟨b,off,e1,e2,e3,e4⟩:=h i hi
  exact ⟨b,off,e1,e2,e3,cc (ne_box hn e4) (by omega) e4⟩
 exact ⟨fun i h'=>by
  obtain ⟨b,off,ah,ch,e1,e2,e3,e4,e5⟩:=h.o i h'
  have c:∀ {j u},w.cell? ⟨b,j,none⟩=some u→w'.cell? ⟨b,j,none⟩=some u:=fun q=>cc (ne_box hn e4.c0) (by omega) q
  exact ⟨b,off,ah,ch,e1,e2,e3,⟨c e4.c0,c e4.c1,c e4.c2,c e4.c3,c e4.c4,c e4.c5,c e4.c6⟩,ss e5⟩,
  fun i h'=>by
  obtain ⟨b,off,ah,ch,e1,e2,e3,e4,e5⟩:=h.h i h'
  have c:∀ {j u},w.cell? ⟨b,j,none⟩=some u→w'.cell? ⟨b,j,none⟩=some u:=fun q=>cc (ne_box hn e4.c2) (by omega) q
  exact ⟨b,off,ah,ch,e1,e2,e3,⟨c e4.c0,c e4.c1,c e4.c2,c e4.c3,c e4.c4,c e4.c5,c e4.c6,c e4.c7,c e4.c8⟩,ss e5⟩,
  fun i h'=>by
  obtain ⟨b,off,e1,e2,e3,e4⟩:=h.t i h'
  have c:∀ {j u},w.cell? ⟨b,j,none⟩=some u→w'.cell? ⟨b,j,none⟩=some u:=fun q=>cc (ne_box hn e4.c0) (by omega) q
  exact ⟨b,off,e1,e2,e3,⟨c e4.c0,c e4.c1,c e4.c2,c e4.c3,c e4.c4⟩⟩⟩
theorem hold_str {w:World} {b:Nat} {A:Option Addr} {n:Nat} {s:Nat→ByteArray} (h:StrsOwn w b (b+1) A n s) (h0:n≠0):∃ j s,w.cell? ⟨b,j,none⟩=some (.string s):=by
 obtain ⟨b',off,_,e2,e3,e4,_⟩:=h 0 (by omega)
 obtain rfl:b'=b:=by omega
 exact ⟨_,_,e4⟩
theorem BkAt.str {w:World} {x:Bk} {p:Pl} (h:BkAt w x p) {k:Nat} (hk:blkB p x k):∃ j s,w.cell? ⟨k,j,none⟩=some (.string s):=by
 rcases hk with h1|h1|h1
 ·rcases h1 with ⟨h0,rfl⟩|⟨i,hi,h0,rfl⟩
  ·obtain ⟨c,r,e⟩:=h.o.row h0
   exact ⟨_,_,(r.cell (0*7) (by omega)).trans (congrArg some (e 0 h0).1)⟩
  ·exact hold_str (h.o.hold i hi) h0
 ·rcases h1 with ⟨h0,rfl⟩|⟨i,hi,h0,rfl⟩
  ·obtain ⟨c,r,e⟩:=h.h.row h0
   exact ⟨_,_,(r.cell (0*9+2) (by omega)).trans (congrArg some (e 0 h0).2.2.1)⟩
  ·exact hold_str (h.h.hold i hi) h0
 ·obtain ⟨h0,rfl⟩:=h1
  obtain ⟨c,r,e⟩:=h.t.row h0
  exact ⟨_,_,(r.cell (0*5) (by omega)).trans (congrArg some (e 0 h0).1)⟩
def zdd:List Value:=[.int .i64 0,.int .i64 0,.int .i64 0,.slice none 0 0,.slice none 0 0,.slice none 0 0,.int .i64 0]
structure Bx (w:World) (z:Nat):Prop where
 row:RowF w z 7 (vec zdd)
 no:∀ j s,¬w.cell? ⟨z,j,none⟩=some (.string s)
theorem Bx.grow {w w':World} {z:Nat} (h:Bx w z) (hb:Below w.1.size w w'):Bx w' z:=
 ⟨h.row.below hb h.row.lt,fun j s e=>h.no j s (by rw [←hb.cell (p:=⟨z,j,none⟩) h.row.lt];exact e)⟩
theorem bx_new (w:World):Bx (w.alloc (.cells #[.int .i64 0,.int .i64 0,.int .i64 0,.slice none 0 0,.slice none 0 0,.slice none 0 0,.int .i64 0] 37)) w.1.size:=
 ⟨RowF.new (l:=zdd) (t:=37) (Below.refl _ _),fun j s e=>by
  rw [World.cell?_alloc_new] at e
  match j,e with
  | 0,e=>cases e
  | 1,e=>cases e
  | 2,e=>cases e
  | 3,e=>cases e
  | 4,e=>cases e
  | 5,e=>cases e
  | 6,e=>cases e
  | n+7,e=>simp at e⟩
theorem fr7 {w:World} {z:Nat} (v0 v1 v2 v3 v4 v5 v6:Value):FrP (fun q=>q=z) w (((((((w.setCell ⟨z,0,none⟩ v0).setCell ⟨z,1,none⟩ v1).setCell ⟨z,2,none⟩ v2).setCell ⟨z,3,none⟩ v3).setCell ⟨z,4,none⟩ v4).setCell ⟨z,5,none⟩ v5).setCell ⟨z,6,none⟩ v6):=
 (((((((FrP.refl (fun q=>q=z) w).setCell (p:=⟨z,0,none⟩) rfl v0).setCell (p:=⟨z,1,none⟩) rfl v1).setCell (p:=⟨z,2,none⟩) rfl v2).setCell (p:=⟨z,3,none⟩) rfl v3).setCell (p:=⟨z,4,none⟩) rfl v4).setCell (p:=⟨z,5,none⟩) rfl v5).setCell (p:=⟨z,6,none⟩) rfl v6
def doReg8G (_s0:Nat) (x:Bk) (v:Wr) (a1 a2 a3:Option Addr) (c1 c2 c3:Nat) (W:World) (i:Nat) (u:Value) (X:World):Prop:=
 match i with
 | 0=>u=.agg #[.int .i64 x.now,.int .i64 x.floor,.slice a1 x.on c1,.slice a2 x.hn c2,.slice a3 x.tn c3]
 | 1=>∃ (g1 g2 g3:Option Addr) (m1 m2 m3:Nat),u=.agg #[.int .i64 x.now,.int .i64 x.floor,.slice g1 x.on m1,.slice g2 x.hn m2,.slice g3 x.tn m3]∧BkIn X W.1.size X.1.size x g1 g2 g3
 | 2=>u=.agg #[.int .i64 v.op,.string v.kind,.string v.name,.int .i64 v.seen,.string v.text,.string v.hold]
 | 3=>u=.agg #[.int .i64 v.op,.string v.kind,.string v.name,.int .i64 v.seen,.string v.text,.string v.hold]
 | 4=>∃ (b1 b2 b3:Option Addr) (e1 e2 e3:Nat),u=.agg #[.int .i64 (didC x v),.int .i64 (didB x v).now,.int .i64 (didB x v).floor,.slice b1 (didB x v).on e1,.slice b2 (didB x v).hn e2,.slice b3 (didB x v).tn e3,.int .i64 (didV x v)]∧BkIn X W.1.size X.1.size (didB x v) b1 b2 b3
 | 5=>∃ z,u=.pointer (some ⟨z,0,none⟩)∧W.1.size≤z∧Bx X z
 | _=>True
theorem doReg8 (p0 p1 p4 p5 p7 p8 p9 p10 p11 p12 p13 p14 p15 p16 p17 p18 p19 p20 p21 p22 p28 p29 p30 p31 p32 p33 p34 p35 p36 p37 p38 p39 p40 p41 p42 p43 p44 p45 p46 p47 p48 p49 p50 p51 p52 p53 p54 p55 p56 p57 p58 p59 p60 p61 p62 p63 p64 p65 p66 p67 p68 p69 p70 p71 p72 p73 p74 p75 p76 p77 p78 p79 p80 p81:Value) (t0:Nat→Value) (s0:Nat) (x:Bk) (v:Wr) (a1 a2 a3:Option Addr) (c1 c2 c3:Nat) (W:World) (hs:s0+1<W.1.size) (hbv:Holds W (s0+1) (wrCells v)) (hf:BkFit x) (wf:WrFit v) (hbx:Holds W s0 (bkCells x a1 a2 a3 c1 c2 c3)) (hin:BkIn W 0 s0 x a1 a2 a3) (htn:(x.tn:Int)≤1048576) (Q:Exit→Act→World→Prop) (hQ:∀ (t:Nat→Value) (z:Nat) (b1 b2 b3:Option Addr) (e1 e2 e3:Nat) X,Below W.1.size W X∧W.1.size≤z∧z<X.1.size∧HoldN X z (ddCells (didC x v) (didB x v) (didV x v) b1 b2 b3 e1 e2 e3)∧BkIn X W.1.size X.1.size (didB x v) b1 b2 b3→Q .normal ⟨#[p0,p1,.pointer (some ⟨s0,0,none⟩),.pointer (some ⟨s0+1,0,none⟩),p4,p5,.pointer (some ⟨z,0,none⟩),p7,p8,p9,p10,p11,p12,p13,p14,p15,p16,p17,p18,p19,p20,p21,p22,t 0,t 1,t 2,t 3,t 4,p28,p29,p30,p31,p32,p33,p34,p35,p36,p37,p38,p39,p40,p41,p42,p43,p44,p45,p46,p47,p48,p49,p50,p51,p52,p53,p54,p55,p56,p57,p58,p59,p60,p61,p62,p63,p64,p65,p66,p67,p68,p69,p70,p71,p72,p73,p74,p75,p76,p77,p78,p79,p80,p81],[]⟩ X) :
  Code.wp Tryz.prog (Code.region 8 #[⟨some 23,.load 26 (.tmp 2),26, "exact.go:3744",#[],none⟩,⟨some 24,.call ⟨.value (.func 9),#[.tmp 23],#[26]⟩,35, "exact.go:3744",#[⟨0,.data⟩],none⟩,⟨some 25,.load 28 (.tmp 3),28, "exact.go:3744",#[],none⟩,⟨some 26,.call ⟨.value (.func 10),#[.tmp 25],#[28]⟩,40, "exact.go:3744",#[⟨2,.data⟩,⟨1,.chain⟩],none⟩,⟨some 27,.call ⟨.value (.func 8),#[.tmp 24,.tmp 26],#[35,40]⟩,37, "exact.go:3744",#[⟨1,.data⟩,⟨3,.data⟩,⟨3,.chain⟩],none⟩,⟨some 6,.alloc 37,0, "exact.go:3744",#[],none⟩,⟨none,.store 37 (.tmp 6) (.tmp 27),0, "exact.go:3744",#[⟨5,.data⟩,⟨4,.data⟩,⟨4,.chain⟩,⟨0,.phase⟩,⟨1,.phase⟩,⟨2,.phase⟩,⟨3,.phase⟩,⟨4,.phase⟩,⟨5,.phase⟩],none⟩] true) Q ⟨#[p0,p1,.pointer (some ⟨s0,0,none⟩),.pointer (some ⟨s0+1,0,none⟩),p4,p5,t0 5,p7,p8,p9,p10,p11,p12,p13,p14,p15,p16,p17,p18,p19,p20,p21,p22,t0 0,t0 1,t0 2,t0 3,t0 4,p28,p29,p30,p31,p32,p33,p34,p35,p36,p37,p38,p39,p40,p41,p42,p43,p44,p45,p46,p47,p48,p49,p50,p51,p52,p53,p54,p55,p56,p57,p58,p59,p60,p61,p62,p63,p64,p65,p66,p67,p68,p69,p70,p71,p72,p73,p74,p75,p76,p77,p78,p79,p80,p81],[]⟩ W:=by
 refine regionH (by kernel_rfl) 6 (fun t:Nat→Value=>#[p0,p1,.pointer (some ⟨s0,0,none⟩),.pointer (some ⟨s0+1,0,none⟩),p4,p5,t 5,p7,p8,p9,p10,p11,p12,p13,p14,p15,p16,p17,p18,p19,p20,p21,p22,t 0,t 1,t 2,t 3,t 4,p28,p29,p30,p31,p32,p33,p34,p35,p36,p37,p38,p39,p40,p41,p42,p43,p44,p45,p46,p47,p48,p49,p50,p51,p52,p53,p54,p55,p56,p57,p58,p59,p60,p61,p62,p63,p64,p65,p66,p67,p68,p69,p70,p71,p72,p73,p74,p75,p76,p77,p78,p79,p80,p81]) t0 (doReg8G s0 x v a1 a2 a3 c1 c2 c3 W) (fun a X=>∃ (t:Nat→Value) (z:Nat) (b1 b2 b3:Option Addr) (e1 e2 e3:Nat),a=⟨#[p0,p1,.pointer (some ⟨s0,0,none⟩),.pointer (some ⟨s0+1,0,none⟩),p4,p5,.pointer (some ⟨z,0,none⟩),p7,p8,p9,p10,p11,p12,p13,p14,p15,p16,p17,p18,p19,p20,p21,p22,t 0,t 1,t 2,t 3,t 4,p28,p29,p30,p31,p32,p33,p34,p35,p36,p37,p38,p39,p40,p41,p42,p43,p44,p45,p46,p47,p48,p49,p50,p51,p52,p53,p54,p55,p56,p57,p58,p59,p60,p61,p62,p63,p64,p65,p66,p67,p68,p69,p70,p71,p72,p73,p74,p75,p76,p77,p78,p79,p80,p81],[]⟩∧Below W.1.size W X∧W.1.size≤z∧z<X.1.size∧HoldN X z (ddCells (didC x v) (didB x v) (didV x v) b1 b2 b3 e1 e2 e3)∧BkIn X W.1.size X.1.size (didB x v) b1 b2 b3) (by kernel_rfl) (by kernel_rfl) (by kernel_rfl) ?_ rfl ?_ ?_ ?_
 ·intro i u X Y hi h hb
  rcases (show i=0∨i=1∨i=2∨i=3∨i=4∨i=5 by omega) with rfl|rfl|rfl|rfl|rfl|rfl
  ·exact h
  ·obtain ⟨g1,g2,g3,m1,m2,m3,e,h⟩:=h
   exact ⟨g1,g2,g3,m1,m2,m3,e,h.grow hb⟩
  ·exact h
  ·exact h
  ·obtain ⟨g1,g2,g3,m1,m2,m3,e,h⟩:=h
   exact ⟨g1,g2,g3,m1,m2,m3,e,h.grow hb⟩
  ·obtain ⟨z,e,h1,h2⟩:=h
   exact ⟨z,e,h1,h2.grow hb⟩
 ·intro i hi t X K hb hg hK
  have zX:=hb.size
  rcases (show i=0∨i=1∨i=2∨i=3∨i=4∨i=5 by omega) with rfl|rfl|rfl|rfl|rfl|rfl
  ·obtain ⟨q0,q1,q2,q3,q4⟩:=holds_bk (hbx.below hb (by omega))
   exact sg
  ·have e0:t 0=.agg #[.int .i64 x.now,.int .i64 x.floor,.slice a1 x.on c1,.slice a2 x.hn c2,.slice a3 x.tn c3]:=hg 0 (Wt rfl)
   refine wpOp_of rfl rfl ?_
   have HK:=hid hK
   clear hK hg
   go_simp
   go_at_call 9
   refine (toBk_any x a1 a2 a3 c1 c2 c3 X 0 s0 (by omega) hf (hin.below hb (by omega))).mono ?_
   rintro r Y ⟨g1,g2,g3,m1,m2,m3,rfl,ho,hbY⟩
   have h:=HK.out _ Y ⟨_,_,_,m1,m2,m3,rfl,ho.isIn.dn zX⟩ hbY
   simpa [updT,e0] using h
  ·obtain ⟨q0,q1,q2,q3,q4,q5⟩:=holds_wr (hbv.below hb (by omega))
   exact sg
  ·have e0:t 2=.agg #[.int .i64 v.op,.string v.kind,.string v.name,.int .i64 v.seen,.string v.text,.string v.hold]:=hg 2 (Wt rfl)
   refine wpOp_of rfl rfl ?_
   have HK:=hid hK
   clear hK hg
   go_simp
   go_at_call 10
   refine (toWr_any v X).mono ?_
   rintro r Y ⟨rfl,hbY⟩
   have h:=HK.out _ Y rfl hbY
   simpa [updT,e0] using h
  ·have ew:t 3=.agg #[.int .i64 v.op,.string v.kind,.string v.name,.int .i64 v.seen,.string v.text,.string v.hold]:=hg 3 (Wt rfl)
   obtain ⟨g1,g2,g3,m1,m2,m3,eb,hB⟩:=hg 1 (Wt rfl)
   have HB:=hid (hB.dn (Nat.zero_le _))
   clear hB
   refine wpOp_of rfl rfl ?_
   have HK:=hid hK
   clear hK hg
   go_simp
   go_at_call 8
   refine (specDo_any x v g1 g2 g3 m1 m2 m3 X hf HB.out wf htn).mono ?_
   rintro r Y ⟨hbY,b1,b2,b3,e1,e2,e3,rfl,hY⟩
   have h:=HK.out _ Y ⟨b1,b2,b3,e1,e2,e3,rfl,hY.dn zX⟩ hbY
   simpa [updT,ew,eb] using h
  ·have h:=hK (.pointer (some ⟨X.1.size,0,none⟩)) _ ⟨X.1.size,rfl,zX,bx_new X⟩ (below_alloc _ _)
   refine wpOp_of rfl rfl ?_
   clear hK hg
   go_simp
   simpa [updT] using h
 ·intro t X K hb hg hK
  have zX:=hb.size
  obtain ⟨z,ez,hz,hx⟩:=hg 5 (by omega)
  obtain ⟨b1,b2,b3,e1,e2,e3,ed,hd⟩:=hg 4 (by omega)
  have zl:=hx.row.lt
  have fz:=hx.row.free
  have r0:=hx.row.cell 0 (by omega)
  have r1:=hx.row.cell 1 (by omega)
  have r2:=hx.row.cell 2 (by omega)
  have r3:=hx.row.cell 3 (by omega)
  have r4:=hx.row.cell 4 (by omega)
  have r5:=hx.row.cell 5 (by omega)
  have r6:=hx.row.cell 6 (by omega)
  simp only [vec,zdd,List.getD_cons_zero,List.getD_cons_succ] at r0 r1 r2 r3 r4 r5 r6
  have F7:=fr7 (w:=X) (z:=z) (.int .i64 (didC x v)) (.int .i64 (didB x v).now) (.int .i64 (didB x v).floor) (.slice b1 (didB x v).on e1) (.slice b2 (didB x v).hn e2) (.slice b3 (didB x v).tn e3) (.int .i64 (didV x v))
  have R7:=row7 (v0:=.int .i64 (didC x v)) (v1:=.int .i64 (didB x v).now) (v2:=.int .i64 (didB x v).floor) (v3:=.slice b1 (didB x v).on e1) (v4:=.slice b2 (didB x v).hn e2) (v5:=.slice b3 (didB x v).tn e3) (v6:=.int .i64 (didV x v)) hx.row
  have hb7:=F7.below (B:=W.1.size) (fun q hq e=>by have e':q=z:=e;omega) zX
  have h:=hK ⟨#[p0,p1,.pointer (some ⟨s0,0,none⟩),.pointer (some ⟨s0+1,0,none⟩),p4,p5,.pointer (some ⟨z,0,none⟩),p7,p8,p9,p10,p11,p12,p13,p14,p15,p16,p17,p18,p19,p20,p21,p22,t 0,t 1,t 2,t 3,t 4,p28,p29,p30,p31,p32,p33,p34,p35,p36,p37,p38,p39,p40,p41,p42,p43,p44,p45,p46,p47,p48,p49,p50,p51,p52,p53,p54,p55,p56,p57,p58,p59,p60,p61,p62,p63,p64,p65,p66,p67,p68,p69,p70,p71,p72,p73,p74,p75,p76,p77,p78,p79,p80,p81],[]⟩ _ ⟨t,z,b1,b2,b3,e1,e2,e3,rfl,hb.trans hb7,hz,R7.lt,fun j hj=>R7.cell j hj,(hd.box F7 hx.no (Nat.le_refl _)).upTo F7.size⟩
  refine wpOp_of rfl rfl ?_
  have H:=hid h
  clear hK hg h F7 R7 hb7
  go_simp
  simpa [updT,ez,ed] using H.out
 ·rintro a X ⟨t,z,b1,b2,b3,e1,e2,e3,rfl,hp⟩
  exact hQ t z b1 b2 b3 e1 e2 e3 X hp
def doReg10G (_s0:Nat) (x:Bk) (v:Wr) (_a1 _a2 _a3:Option Addr) (_c1 _c2 _c3:Nat) (_zx:Nat) (p:Pl) (d1 d2 d3:Nat) (W:World) (i:Nat) (u:Value) (X:World):Prop:=
 match i with
 | 0=>u=.agg #[.int .i64 x.now,.int .i64 x.floor,.slice p.a1 x.on d1,.slice p.a2 x.hn d2,.slice p.a3 x.tn d3]
 | 1=>u=.agg #[.int .i64 v.op,.string v.kind,.string v.name,.int .i64 v.seen,.string v.text,.string v.hold]
 | 2=>u=.agg #[.int .i64 v.op,.string v.kind,.string v.name,.int .i64 v.seen,.string v.text,.string v.hold]
 | 3=>∃ (g:Pl) (e1 e2 e3:Nat),u=.agg #[.int .i64 (didC x v),.int .i64 (didB x v).now,.int .i64 (didB x v).floor,.slice g.a1 (didB x v).on e1,.slice g.a2 (didB x v).hn e2,.slice g.a3 (didB x v).tn e3,.int .i64 (didV x v)]∧BkAt X (didB x v) g∧∀ q,blkB g (didB x v) q→W.1.size≤q
 | 4=>∃ z,u=.pointer (some ⟨z,0,none⟩)∧W.1.size≤z∧Bx X z
 | _=>True
theorem doReg10 (p0 p1 p4 p5 p6 p9 p10 p11 p12 p13 p14 p15 p16 p17 p18 p19 p20 p21 p22 p23 p24 p25 p26 p27 p28 p29 p34 p35 p36 p37 p38 p39 p40 p41 p42 p43 p44 p45 p46 p47 p48 p49 p50 p51 p52 p53 p54 p55 p56 p57 p58 p59 p60 p61 p62 p63 p64 p65 p66 p67 p68 p69 p70 p71 p72 p73 p74 p75 p76 p77 p78 p79 p80 p81:Value) (t0:Nat→Value) (s0:Nat) (x:Bk) (v:Wr) (a1 a2 a3:Option Addr) (c1 c2 c3:Nat) (zx:Nat) (p:Pl) (d1 d2 d3:Nat) (W:World) (hs:s0+1<W.1.size) (hbv:Holds W (s0+1) (wrCells v)) (hf:BkFit x) (wf:WrFit v) (hzx:zx<W.1.size) (hvx:Holds W zx (bkCells x p.a1 p.a2 p.a3 d1 d2 d3)) (hxx:BkAt W x p) (hg0:W.cell? ⟨0,0,none⟩=some (.iface 233 (.agg #[.pointer (some ⟨5,86,none⟩)]))) (Q:Exit→Act→World→Prop) (hQ:∀ (t:Nat→Value) (z:Nat) (g:Pl) (e1 e2 e3:Nat) X,Below W.1.size W X∧W.1.size≤z∧z<X.1.size∧HoldN X z (ddCells (didC x v) (didB x v) (didV x v) g.a1 g.a2 g.a3 e1 e2 e3)∧BkAt X (didB x v) g∧(∀ q,blkB g (didB x v) q→W.1.size≤q∧q<X.1.size∧¬q=z)→Q .normal ⟨#[p0,p1,.pointer (some ⟨s0,0,none⟩),.pointer (some ⟨s0+1,0,none⟩),p4,p5,p6,.pointer (some ⟨zx,0,none⟩),.pointer (some ⟨z,0,none⟩),p9,p10,p11,p12,p13,p14,p15,p16,p17,p18,p19,p20,p21,p22,p23,p24,p25,p26,p27,p28,p29,t 0,t 1,t 2,t 3,p34,p35,p36,p37,p38,p39,p40,p41,p42,p43,p44,p45,p46,p47,p48,p49,p50,p51,p52,p53,p54,p55,p56,p57,p58,p59,p60,p61,p62,p63,p64,p65,p66,p67,p68,p69,p70,p71,p72,p73,p74,p75,p76,p77,p78,p79,p80,p81],[]⟩ X) :
  Code.wp Tryz.prog (Code.region 10 #[⟨some 30,.load 35 (.tmp 7),35, "exact.go:3746",#[],none⟩,⟨some 31,.load 28 (.tmp 3),28, "exact.go:3746",#[],none⟩,⟨some 32,.call ⟨.value (.func 10),#[.tmp 31],#[28]⟩,40, "exact.go:3746",#[⟨1,.data⟩],none⟩,⟨some 33,.call ⟨.value (.func 11),#[.tmp 30,.tmp 32],#[35,40]⟩,37, "exact.go:3746",#[⟨0,.data⟩,⟨2,.data⟩,⟨2,.chain⟩],none⟩,⟨some 8,.alloc 37,0, "exact.go:3746",#[],none⟩,⟨none,.store 37 (.tmp 8) (.tmp 33),0, "exact.go:3746",#[⟨4,.data⟩,⟨3,.data⟩,⟨3,.chain⟩,⟨0,.phase⟩,⟨1,.phase⟩,⟨2,.phase⟩,⟨3,.phase⟩,⟨4,.phase⟩],none⟩] true) Q ⟨#[p0,p1,.pointer (some ⟨s0,0,none⟩),.pointer (some ⟨s0+1,0,none⟩),p4,p5,p6,.pointer (some ⟨zx,0,none⟩),t0 4,p9,p10,p11,p12,p13,p14,p15,p16,p17,p18,p19,p20,p21,p22,p23,p24,p25,p26,p27,p28,p29,t0 0,t0 1,t0 2,t0 3,p34,p35,p36,p37,p38,p39,p40,p41,p42,p43,p44,p45,p46,p47,p48,p49,p50,p51,p52,p53,p54,p55,p56,p57,p58,p59,p60,p61,p62,p63,p64,p65,p66,p67,p68,p69,p70,p71,p72,p73,p74,p75,p76,p77,p78,p79,p80,p81],[]⟩ W:=by
 refine regionH (by kernel_rfl) 5 (fun t:Nat→Value=>#[p0,p1,.pointer (some ⟨s0,0,none⟩),.pointer (some ⟨s0+1,0,none⟩),p4,p5,p6,.pointer (some ⟨zx,0,none⟩),t 4,p9,p10,p11,p12,p13,p14,p15,p16,p17,p18,p19,p20,p21,p22,p23,p24,p25,p26,p27,p28,p29,t 0,t 1,t 2,t 3,p34,p35,p36,p37,p38,p39,p40,p41,p42,p43,p44,p45,p46,p47,p48,p49,p50,p51,p52,p53,p54,p55,p56,p57,p58,p59,p60,p61,p62,p63,p64,p65,p66,p67,p68,p69,p70,p71,p72,p73,p74,p75,p76,p77,p78,p79,p80,p81]) t0 (doReg10G s0 x v a1 a2 a3 c1 c2 c3 zx p d1 d2 d3 W) (fun a X=>∃ (t:Nat→Value) (z:Nat) (g:Pl) (e1 e2 e3:Nat),a=⟨#[p0,p1,.pointer (some ⟨s0,0,none⟩),.pointer (some ⟨s0+1,0,none⟩),p4,p5,p6,.pointer (some ⟨zx,0,none⟩),.pointer (some ⟨z,0,none⟩),p9,p10,p11,p12,p13,p14,p15,p16,p17,p18,p19,p20,p21,p22,p23,p24,p25,p26,p27,p28,p29,t 0,t 1,t 2,t 3,p34,p35,p36,p37,p38,p39,p40,p41,p42,p43,p44,p45,p46,p47,p48,p49,p50,p51,p52,p53,p54,p55,p56,p57,p58,p59,p60,p61,p62,p63,p64,p65,p66,p67,p68,p69,p70,p71,p72,p73,p74,p75,p76,p77,p78,p79,p80,p81],[]⟩∧Below W.1.size W X∧W.1.size≤z∧z<X.1.size∧HoldN X z (ddCells (didC x v) (didB x v) (didV x v) g.a1 g.a2 g.a3 e1 e2 e3)∧BkAt X (didB x v) g∧(∀ q,blkB g (didB x v) q→W.1.size≤q∧q<X.1.size∧¬q=z)) (by kernel_rfl) (by kernel_rfl) (by kernel_rfl) ?_ rfl ?_ ?_ ?_
 ·intro i u X Y hi h hb
  rcases (show i=0∨i=1∨i=2∨i=3∨i=4 by omega) with rfl|rfl|rfl|rfl|rfl
  ·exact h
  ·exact h
  ·exact h
  ·obtain ⟨g,m1,m2,m3,e,h,h2⟩:=h
   exact ⟨g,m1,m2,m3,e,h.grow hb,h2⟩
  ·obtain ⟨z,e,h1,h2⟩:=h
   exact ⟨z,e,h1,h2.grow hb⟩
 ·intro i hi t X K hb hg hK
  have zX:=hb.size
  rcases (show i=0∨i=1∨i=2∨i=3∨i=4 by omega) with rfl|rfl|rfl|rfl|rfl
  ·obtain ⟨q0,q1,q2,q3,q4⟩:=holds_bk (hvx.below hb (by omega))
   exact sg
  ·obtain ⟨q0,q1,q2,q3,q4,q5⟩:=holds_wr (hbv.below hb (by omega))
   exact sg
  ·have e0:t 1=.agg #[.int .i64 v.op,.string v.kind,.string v.name,.int .i64 v.seen,.string v.text,.string v.hold]:=hg 1 (Wt rfl)
   refine wpOp_of rfl rfl ?_
   have HK:=hid hK
   clear hK hg
   go_simp
   go_at_call 10
   refine (toWr_any v X).mono ?_
   rintro r Y ⟨rfl,hbY⟩
   have h:=HK.out _ Y rfl hbY
   simpa [updT,e0] using h
  ·have ew:t 2=.agg #[.int .i64 v.op,.string v.kind,.string v.name,.int .i64 v.seen,.string v.text,.string v.hold]:=hg 2 (Wt rfl)
   have eb:t 0=.agg #[.int .i64 x.now,.int .i64 x.floor,.slice p.a1 x.on d1,.slice p.a2 x.hn d2,.slice p.a3 x.tn d3]:=hg 0 (Wt rfl)
   have HB:=hid ((hxx.grow hb).isIn (lo:=0) (fun _ _=>Nat.zero_le _))
   refine wpOp_of rfl rfl ?_
   have HK:=hid hK
   clear hK hg
   go_simp
   go_at_call 11
   refine (implDo_any x v p.a1 p.a2 p.a3 d1 d2 d3 X 0 X.1.size (Nat.le_refl _) hf HB.out wf ((hb.cell (p:=⟨0,0,none⟩) (by show 0<W.1.size;omega)).trans hg0) (by omega)).mono ?_
   rintro r Y ⟨g,e1,e2,e3,rfl,hY,hq,hbY⟩
   have h:=HK.out _ Y ⟨g,e1,e2,e3,rfl,hY,fun q hq'=>Nat.le_trans zX (hq q hq')⟩ hbY
   simpa [updT,ew,eb] using h
  ·have h:=hK (.pointer (some ⟨X.1.size,0,none⟩)) _ ⟨X.1.size,rfl,zX,bx_new X⟩ (below_alloc _ _)
   refine wpOp_of rfl rfl ?_
   clear hK hg
   go_simp
   simpa [updT] using h
 ·intro t X K hb hg hK
  have zX:=hb.size
  obtain ⟨z,ez,hz,hx⟩:=hg 4 (by omega)
  obtain ⟨g,e1,e2,e3,ed,hd,hq⟩:=hg 3 (by omega)
  have zl:=hx.row.lt
  have fz:=hx.row.free
  have r0:=hx.row.cell 0 (by omega)
  have r1:=hx.row.cell 1 (by omega)
  have r2:=hx.row.cell 2 (by omega)
  have r3:=hx.row.cell 3 (by omega)
  have r4:=hx.row.cell 4 (by omega)
  have r5:=hx.row.cell 5 (by omega)
  have r6:=hx.row.cell 6 (by omega)
  simp only [vec,zdd,List.getD_cons_zero,List.getD_cons_succ] at r0 r1 r2 r3 r4 r5 r6
  have F7:=fr7 (w:=X) (z:=z) (.int .i64 (didC x v)) (.int .i64 (didB x v).now) (.int .i64 (didB x v).floor) (.slice g.a1 (didB x v).on e1) (.slice g.a2 (didB x v).hn e2) (.slice g.a3 (didB x v).tn e3) (.int .i64 (didV x v))
  have R7:=row7 (v0:=.int .i64 (didC x v)) (v1:=.int .i64 (didB x v).now) (v2:=.int .i64 (didB x v).floor) (v3:=.slice g.a1 (didB x v).on e1) (v4:=.slice g.a2 (didB x v).hn e2) (v5:=.slice g.a3 (didB x v).tn e3) (v6:=.int .i64 (didV x v)) hx.row
  have hb7:=F7.below (B:=W.1.size) (fun q hq e=>by have e':q=z:=e;omega) zX
  have h:=hK ⟨#[p0,p1,.pointer (some ⟨s0,0,none⟩),.pointer (some ⟨s0+1,0,none⟩),p4,p5,p6,.pointer (some ⟨zx,0,none⟩),.pointer (some ⟨z,0,none⟩),p9,p10,p11,p12,p13,p14,p15,p16,p17,p18,p19,p20,p21,p22,p23,p24,p25,p26,p27,p28,p29,t 0,t 1,t 2,t 3,p34,p35,p36,p37,p38,p39,p40,p41,p42,p43,p44,p45,p46,p47,p48,p49,p50,p51,p52,p53,p54,p55,p56,p57,p58,p59,p60,p61,p62,p63,p64,p65,p66,p67,p68,p69,p70,p71,p72,p73,p74,p75,p76,p77,p78,p79,p80,p81],[]⟩ _ ⟨t,z,g,e1,e2,e3,rfl,hb.trans hb7,hz,R7.lt,fun j hj=>R7.cell j hj,hd.fr F7 (fun k hk e=>by obtain ⟨j,s,hs⟩:=hd.str hk;exact ne_box hx.no hs e),fun q hq'=>⟨hq q hq',Nat.lt_of_lt_of_le (hd.blt hq') F7.size,fun e=>by obtain ⟨j,s,hs⟩:=hd.str hq';exact ne_box hx.no hs e⟩⟩
  refine wpOp_of rfl rfl ?_
  have H:=hid h
  clear hK hg h F7 R7 hb7
  go_simp
  simpa [updT,ez,ed] using H.out
 ·rintro a X ⟨t,z,g,e1,e2,e3,rfl,hp⟩
  exact hQ t z g e1 e2 e3 X hp
def doReg27G (_s0:Nat) (x:Bk) (v:Wr) (a1 a2 a3:Option Addr) (c1 c2 c3:Nat) (W:World) (i:Nat) (u:Value) (X:World):Prop:=
 match i with
 | 0=>u=.agg #[.int .i64 x.now,.int .i64 x.floor,.slice a1 x.on c1,.slice a2 x.hn c2,.slice a3 x.tn c3]
 | 1=>∃ (g1 g2 g3:Option Addr) (m1 m2 m3:Nat),u=.agg #[.int .i64 x.now,.int .i64 x.floor,.slice g1 x.on m1,.slice g2 x.hn m2,.slice g3 x.tn m3]∧BkIn X W.1.size X.1.size x g1 g2 g3
 | 2=>u=.agg #[.int .i64 v.op,.string v.kind,.string v.name,.int .i64 v.seen,.string v.text,.string v.hold]
 | 3=>u=.agg #[.int .i64 v.op,.string v.kind,.string v.name,.int .i64 v.seen,.string v.text,.string v.hold]
 | 4=>∃ (g:Pl) (e1 e2 e3:Nat),u=.agg #[.int .i64 (didC x v),.int .i64 (didB x v).now,.int .i64 (didB x v).floor,.slice g.a1 (didB x v).on e1,.slice g.a2 (didB x v).hn e2,.slice g.a3 (didB x v).tn e3,.int .i64 (didV x v)]∧BkAt X (didB x v) g∧∀ q,blkB g (didB x v) q→W.1.size≤q
 | 5=>∃ z,u=.pointer (some ⟨z,0,none⟩)∧W.1.size≤z∧Bx X z
 | _=>True
theorem doReg27 (p0 p1 p4 p5 p6 p7 p8 p9 p10 p11 p13 p14 p15 p16 p17 p18 p19 p20 p21 p22 p23 p24 p25 p26 p27 p28 p29 p30 p31 p32 p33 p34 p35 p36 p37 p38 p39 p40 p41 p42 p43 p44 p45 p46 p47 p48 p49 p50 p51 p52 p53 p54 p55 p56 p57 p58 p59 p60 p61 p62 p63 p64 p70 p71 p72 p73 p74 p75 p76 p77 p78 p79 p80 p81:Value) (t0:Nat→Value) (s0:Nat) (x:Bk) (v:Wr) (a1 a2 a3:Option Addr) (c1 c2 c3:Nat) (W:World) (hs:s0+1<W.1.size) (hbv:Holds W (s0+1) (wrCells v)) (hf:BkFit x) (wf:WrFit v) (hbx:Holds W s0 (bkCells x a1 a2 a3 c1 c2 c3)) (hin:BkIn W 0 s0 x a1 a2 a3) (hg0:W.cell? ⟨0,0,none⟩=some (.iface 233 (.agg #[.pointer (some ⟨5,86,none⟩)]))) (Q:Exit→Act→World→Prop) (hQ:∀ (t:Nat→Value) (z:Nat) (g:Pl) (e1 e2 e3:Nat) X,Below W.1.size W X∧W.1.size≤z∧z<X.1.size∧HoldN X z (ddCells (didC x v) (didB x v) (didV x v) g.a1 g.a2 g.a3 e1 e2 e3)∧BkAt X (didB x v) g∧(∀ q,blkB g (didB x v) q→W.1.size≤q∧q<X.1.size∧¬q=z)→Q .normal ⟨#[p0,p1,.pointer (some ⟨s0,0,none⟩),.pointer (some ⟨s0+1,0,none⟩),p4,p5,p6,p7,p8,p9,p10,p11,.pointer (some ⟨z,0,none⟩),p13,p14,p15,p16,p17,p18,p19,p20,p21,p22,p23,p24,p25,p26,p27,p28,p29,p30,p31,p32,p33,p34,p35,p36,p37,p38,p39,p40,p41,p42,p43,p44,p45,p46,p47,p48,p49,p50,p51,p52,p53,p54,p55,p56,p57,p58,p59,p60,p61,p62,p63,p64,t 0,t 1,t 2,t 3,t 4,p70,p71,p72,p73,p74,p75,p76,p77,p78,p79,p80,p81],[]⟩ X) :
  Code.wp Tryz.prog (Code.region 27 #[⟨some 65,.load 26 (.tmp 2),26, "exact.go:3768",#[],none⟩,⟨some 66,.call ⟨.value (.func 9),#[.tmp 65],#[26]⟩,35, "exact.go:3768",#[⟨0,.data⟩],none⟩,⟨some 67,.load 28 (.tmp 3),28, "exact.go:3768",#[],none⟩,⟨some 68,.call ⟨.value (.func 10),#[.tmp 67],#[28]⟩,40, "exact.go:3768",#[⟨2,.data⟩,⟨1,.chain⟩],none⟩,⟨some 69,.call ⟨.value (.func 11),#[.tmp 66,.tmp 68],#[35,40]⟩,37, "exact.go:3768",#[⟨1,.data⟩,⟨3,.data⟩,⟨3,.chain⟩],none⟩,⟨some 12,.alloc 37,0, "exact.go:3768",#[],none⟩,⟨none,.store 37 (.tmp 12) (.tmp 69),0, "exact.go:3768",#[⟨5,.data⟩,⟨4,.data⟩,⟨4,.chain⟩,⟨0,.phase⟩,⟨1,.phase⟩,⟨2,.phase⟩,⟨3,.phase⟩,⟨4,.phase⟩,⟨5,.phase⟩],none⟩] true) Q ⟨#[p0,p1,.pointer (some ⟨s0,0,none⟩),.pointer (some ⟨s0+1,0,none⟩),p4,p5,p6,p7,p8,p9,p10,p11,t0 5,p13,p14,p15,p16,p17,p18,p19,p20,p21,p22,p23,p24,p25,p26,p27,p28,p29,p30,p31,p32,p33,p34,p35,p36,p37,p38,p39,p40,p41,p42,p43,p44,p45,p46,p47,p48,p49,p50,p51,p52,p53,p54,p55,p56,p57,p58,p59,p60,p61,p62,p63,p64,t0 0,t0 1,t0 2,t0 3,t0 4,p70,p71,p72,p73,p74,p75,p76,p77,p78,p79,p80,p81],[]⟩ W:=by
 refine regionH (by kernel_rfl) 6 (fun t:Nat→Value=>#[p0,p1,.pointer (some ⟨s0,0,none⟩),.pointer (some ⟨s0+1,0,none⟩),p4,p5,p6,p7,p8,p9,p10,p11,t 5,p13,p14,p15,p16,p17,p18,p19,p20,p21,p22,p23,p24,p25,p26,p27,p28,p29,p30,p31,p32,p33,p34,p35,p36,p37,p38,p39,p40,p41,p42,p43,p44,p45,p46,p47,p48,p49,p50,p51,p52,p53,p54,p55,p56,p57,p58,p59,p60,p61,p62,p63,p64,t 0,t 1,t 2,t 3,t 4,p70,p71,p72,p73,p74,p75,p76,p77,p78,p79,p80,p81]) t0 (doReg27G s0 x v a1 a2 a3 c1 c2 c3 W) (fun a X=>∃ (t:Nat→Value) (z:Nat) (g:Pl) (e1 e2 e3:Nat),a=⟨#[p0,p1,.pointer (some ⟨s0,0,none⟩),.pointer (some ⟨s0+1,0,none⟩),p4,p5,p6,p7,p8,p9,p10,p11,.pointer (some ⟨z,0,none⟩),p13,p14,p15,p16,p17,p18,p19,p20,p21,p22,p23,p24,p25,p26,p27,p28,p29,p30,p31,p32,p33,p34,p35,p36,p37,p38,p39,p40,p41,p42,p43,p44,p45,p46,p47,p48,p49,p50,p51,p52,p53,p54,p55,p56,p57,p58,p59,p60,p61,p62,p63,p64,t 0,t 1,t 2,t 3,t 4,p70,p71,p72,p73,p74,p75,p76,p77,p78,p79,p80,p81],[]⟩∧Below W.1.size W X∧W.1.size≤z∧z<X.1.size∧HoldN X z (ddCells (didC x v) (didB x v) (didV x v) g.a1 g.a2 g.a3 e1 e2 e3)∧BkAt X (didB x v) g∧(∀ q,blkB g (didB x v) q→W.1.size≤q∧q<X.1.size∧¬q=z)) (by kernel_rfl) (by kernel_rfl) (by kernel_rfl) ?_ rfl ?_ ?_ ?_
 ·intro i u X Y hi h hb
  rcases (show i=0∨i=1∨i=2∨i=3∨i=4∨i=5 by omega) with rfl|rfl|rfl|rfl|rfl|rfl
  ·exact h
  ·obtain ⟨g1,g2,g3,m1,m2,m3,e,h⟩:=h
   exact ⟨g1,g2,g3,m1,m2,m3,e,h.grow hb⟩
  ·exact h
  ·exact h
  ·obtain ⟨g,m1,m2,m3,e,h,h2⟩:=h
   exact ⟨g,m1,m2,m3,e,h.grow hb,h2⟩
  ·obtain ⟨z,e,h1,h2⟩:=h
   exact ⟨z,e,h1,h2.grow hb⟩
 ·intro i hi t X K hb hg hK
  have zX:=hb.size
  rcases (show i=0∨i=1∨i=2∨i=3∨i=4∨i=5 by omega) with rfl|rfl|rfl|rfl|rfl|rfl
  ·obtain ⟨q0,q1,q2,q3,q4⟩:=holds_bk (hbx.below hb (by omega))
   exact sg
  ·have e0:t 0=.agg #[.int .i64 x.now,.int .i64 x.floor,.slice a1 x.on c1,.slice a2 x.hn c2,.slice a3 x.tn c3]:=hg 0 (Wt rfl)
   refine wpOp_of rfl rfl ?_
   have HK:=hid hK
   clear hK hg
   go_simp
   go_at_call 9
   refine (toBk_any x a1 a2 a3 c1 c2 c3 X 0 s0 (by omega) hf (hin.below hb (by omega))).mono ?_
   rintro r Y ⟨g1,g2,g3,m1,m2,m3,rfl,ho,hbY⟩
   have h:=HK.out _ Y ⟨_,_,_,m1,m2,m3,rfl,ho.isIn.dn zX⟩ hbY
   simpa [updT,e0] using h
  ·obtain ⟨q0,q1,q2,q3,q4,q5⟩:=holds_wr (hbv.below hb (by omega))
   exact sg
  ·have e0:t 2=.agg #[.int .i64 v.op,.string v.kind,.string v.name,.int .i64 v.seen,.string v.text,.string v.hold]:=hg 2 (Wt rfl)
   refine wpOp_of rfl rfl ?_
   have HK:=hid hK
   clear hK hg
   go_simp
   go_at_call 10
   refine (toWr_any v X).mono ?_
   rintro r Y ⟨rfl,hbY⟩
   have h:=HK.out _ Y rfl hbY
   simpa [updT,e0] using h
  ·have ew:t 3=.agg #[.int .i64 v.op,.string v.kind,.string v.name,.int .i64 v.seen,.string v.text,.string v.hold]:=hg 3 (Wt rfl)
   obtain ⟨g1,g2,g3,m1,m2,m3,eb,hB⟩:=hg 1 (Wt rfl)
   have HB:=hid (hB.dn (Nat.zero_le _))
   clear hB
   refine wpOp_of rfl rfl ?_
   have HK:=hid hK
   clear hK hg
   go_simp
   go_at_call 11
   refine (implDo_any x v g1 g2 g3 m1 m2 m3 X 0 X.1.size (Nat.le_refl _) hf HB.out wf ((hb.cell (p:=⟨0,0,none⟩) (by show 0<W.1.size;omega)).trans hg0) (by omega)).mono ?_
   rintro r Y ⟨g,e1,e2,e3,rfl,hY,hq,hbY⟩
   have h:=HK.out _ Y ⟨g,e1,e2,e3,rfl,hY,fun q hq'=>Nat.le_trans zX (hq q hq')⟩ hbY
   simpa [updT,ew,eb] using h
  ·have h:=hK (.pointer (some ⟨X.1.size,0,none⟩)) _ ⟨X.1.size,rfl,zX,bx_new X⟩ (below_alloc _ _)
   refine wpOp_of rfl rfl ?_
   clear hK hg
   go_simp
   simpa [updT] using h
 ·intro t X K hb hg hK
  have zX:=hb.size
  obtain ⟨z,ez,hz,hx⟩:=hg 5 (by omega)
  obtain ⟨g,e1,e2,e3,ed,hd,hq⟩:=hg 4 (by omega)
  have zl:=hx.row.lt
  have fz:=hx.row.free
  have r0:=hx.row.cell 0 (by omega)
  have r1:=hx.row.cell 1 (by omega)
  have r2:=hx.row.cell 2 (by omega)
  have r3:=hx.row.cell 3 (by omega)
  have r4:=hx.row.cell 4 (by omega)
  have r5:=hx.row.cell 5 (by omega)
  have r6:=hx.row.cell 6 (by omega)
  simp only [vec,zdd,List.getD_cons_zero,List.getD_cons_succ] at r0 r1 r2 r3 r4 r5 r6
  have F7:=fr7 (w:=X) (z:=z) (.int .i64 (didC x v)) (.int .i64 (didB x v).now) (.int .i64 (didB x v).floor) (.slice g.a1 (didB x v).on e1) (.slice g.a2 (didB x v).hn e2) (.slice g.a3 (didB x v).tn e3) (.int .i64 (didV x v))
  have R7:=row7 (v0:=.int .i64 (didC x v)) (v1:=.int .i64 (didB x v).now) (v2:=.int .i64 (didB x v).floor) (v3:=.slice g.a1 (didB x v).on e1) (v4:=.slice g.a2 (didB x v).hn e2) (v5:=.slice g.a3 (didB x v).tn e3) (v6:=.int .i64 (didV x v)) hx.row
  have hb7:=F7.below (B:=W.1.size) (fun q hq e=>by have e':q=z:=e;omega) zX
  have h:=hK ⟨#[p0,p1,.pointer (some ⟨s0,0,none⟩),.pointer (some ⟨s0+1,0,none⟩),p4,p5,p6,p7,p8,p9,p10,p11,.pointer (some ⟨z,0,none⟩),p13,p14,p15,p16,p17,p18,p19,p20,p21,p22,p23,p24,p25,p26,p27,p28,p29,p30,p31,p32,p33,p34,p35,p36,p37,p38,p39,p40,p41,p42,p43,p44,p45,p46,p47,p48,p49,p50,p51,p52,p53,p54,p55,p56,p57,p58,p59,p60,p61,p62,p63,p64,t 0,t 1,t 2,t 3,t 4,p70,p71,p72,p73,p74,p75,p76,p77,p78,p79,p80,p81],[]⟩ _ ⟨t,z,g,e1,e2,e3,rfl,hb.trans hb7,hz,R7.lt,fun j hj=>R7.cell j hj,hd.fr F7 (fun k hk e=>by obtain ⟨j,s,hs⟩:=hd.str hk;exact ne_box hx.no hs e),fun q hq'=>⟨hq q hq',Nat.lt_of_lt_of_le (hd.blt hq') F7.size,fun e=>by obtain ⟨j,s,hs⟩:=hd.str hq';exact ne_box hx.no hs e⟩⟩
  refine wpOp_of rfl rfl ?_
  have H:=hid h
  clear hK hg h F7 R7 hb7
  go_simp
  simpa [updT,ez,ed] using H.out
 ·rintro a X ⟨t,z,g,e1,e2,e3,rfl,hp⟩
  exact hQ t z g e1 e2 e3 X hp
theorem do_law (x:Bk) (v:Wr) (a1 a2 a3:Option Addr) (c1 c2 c3:Nat) (w:World) (hf0:BkFit0 x) (wf:WrFit v) (hc:BkIn w 0 w.1.size x a1 a2 a3) (hg:w.cell? ⟨0,0,none⟩=some (.iface 233 (.agg #[.pointer (some ⟨5,86,none⟩)]))) (hw0:0<w.1.size) :
  Calls Tryz.prog 3 #[.agg #[.int .i64 x.now,.int .i64 x.floor,.slice a1 x.on c1,.slice a2 x.hn c2,.slice a3 x.tn c3],.agg #[.int .i64 v.op,.string v.kind,.string v.name,.int .i64 v.seen,.string v.text,.string v.hold]] w fun e w'=>e=.returned (.bool true)∧Below w.1.size w w':=by
 have HG:=hid hg
 clear hg
 go_enter Tryz.func3,Tryz.ntmps3
 go_wp2_with fail
 refine (szBk_any x a1 a2 a3 c1 c2 c3 1048576 _ (by omega) (by omega) 0 w.1.size (by simp;omega) hf0 (hc.below ((below_alloc _ _).alloc (by simp) _) (Nat.le_refl _))).mono ?_
 rintro e w1 ⟨rfl,hb1⟩
 have hB1:Below w.1.size w w1:=((below_alloc _ _).alloc (by simp) _).trans (hb1.mono (by simp;omega))
 have H1:Holds w1 w.1.size (bkCells x a1 a2 a3 c1 c2 c3):=((holds_new w _ 26).below (below_alloc _ _) (by simp)).below hb1 (by simp;omega)
 have J1:Holds w1 (w.1.size+1) (wrCells v):=by
  have:=(holds_new (w.alloc (.cells (bkCells x a1 a2 a3 c1 c2 c3) 26)) (wrCells v) 28).below hb1 (by simp)
  rwa [World.size_alloc] at this
 have hz1:w.1.size+1<w1.1.size:=by have:=hb1.size;simp at this;omega
 clear hb1
 by_cases hsz:szOut 1048576 (szBk x)<0
 ·clear H1 J1
  go_wp2
  go_ret
  exact ⟨rfl,hB1⟩
 have hs0:szBk x≤1048576:=by
  have:=(szOut_ge (l:=1048576) (s:=szBk x) (by omega)).1
  omega
 have hf:BkFit x:=by
  have hs1:=hs0
  unfold szBk szObs szChs szTis at hs1
  exact ⟨by omega,by omega,by omega,hf0.os,hf0.hs,hf0.ts⟩
 have hq0:szOut 1048576 (szBk x)≤1048576:=by
  rw [(szOut_ge (l:=1048576) (s:=szBk x) (by omega)).2]
  omega
 clear hf0
 obtain ⟨r0,r1,r2,r3,r4,r5⟩:=holds_wr J1
 go_wp2_with fail
 refine (szWr_any v wf _ w1 (by omega) hq0).mono ?_
 rintro e w2 ⟨rfl,hb2⟩
 have hB2:Below w.1.size w w2:=hB1.trans (hb2.mono hB1.size)
 have H2:=H1.below hb2 (by omega)
 have J2:=J1.below hb2 (by omega)
 have hz2:w.1.size+1<w2.1.size:=by have:=hb2.size;omega
 obtain ⟨l2,hl2⟩:∃ l,szOut (szOut 1048576 (szBk x)) (szWr v)=l:=⟨_,rfl⟩
 rw [hl2]
 clear hb2 H1 J1 hB1 r0 r1 r2 r3 r4 r5 hl2 hz1 hq0 hsz
 by_cases hsz:l2<0
 ·clear H2 J2
  go_wp2
  go_ret
  exact ⟨rfl,hB2⟩
 obtain ⟨lx1,lx2,lx3⟩:=lim_of_sz hs0
 have hD:=did_all (v:=v) hf wf hs0
 have hmx:(mkBk 1 x:Int)≤1073741824:=by have:=mkBk_le 1 x;omega
 have HD:=hid hD
 have HH2:=hid H2
 have HJ2:=hid J2
 have HC:=hid hc
 clear hD H2 J2 hc
 go_wp2
 refine doReg8 _ _ _ _ _ _ _ _ _ _ _ _ _ _ _ _ _ _ _ _ _ _ _ _ _ _ _ _ _ _ _ _ _ _ _ _ _ _ _ _ _ _ _ _ _ _ _ _ _ _ _ _ _ _ _ _ _ _ _ _ _ _ _ _ _ _ _ _ _ _ _ _ _ _ (fun _=>undef) w.1.size x v a1 a2 a3 c1 c2 c3 w2 hz2 HJ2.out hf wf HH2.out (HC.out.below hB2 (Nat.le_refl _)) lx3 _ ?_
 rintro t8 zw b1 b2 b3 u1 u2 u3 w3 ⟨hb3,hzw,hzw',hv3,hw3⟩
 have hB3:Below w.1.size w w3:=hB2.trans (hb3.mono hB2.size)
 have HH3:=hid (HH2.out.below hb3 (by omega))
 have HJ3:=hid (HJ2.out.below hb3 (by omega))
 have hz3:w.1.size+1<w3.1.size:=by have:=hb3.size;omega
 have HV3:=hid hv3
 have HW3:=hid hw3
 obtain ⟨y,hy⟩:∃ y,didB x v=y:=⟨_,rfl⟩
 obtain ⟨co,hco⟩:∃ y,didC x v=y:=⟨_,rfl⟩
 obtain ⟨ve,hve⟩:∃ y,didV x v=y:=⟨_,rfl⟩
 have HY:=hid (And.intro hy (And.intro hco hve))
 clear hb3 hv3 hw3 HH2 HJ2
 obtain ⟨p0,p1,p2,p3,p4⟩:=holds_bk HH3.out
 go_wp2_with fail
 refine (toBk_any x a1 a2 a3 c1 c2 c3 w3 0 w.1.size (by omega) hf (HC.out.below hB3 (Nat.le_refl _))).mono ?_
 rintro e w4 ⟨g1,g2,g3,d1,d2,d3,rfl,hx4,hb4⟩
 obtain ⟨p,hp1,hp2,hp3,hp4,hp5⟩:=hx4.at
 rw [←hp1,←hp2,←hp3]
 have hB4:Below w.1.size w w4:=hB3.trans (hb4.mono hB3.size)
 have hz4:=hb4.size
 have HH4:=hid (HH3.out.below hb4 (by omega))
 have HJ4:=hid (HJ3.out.below hb4 (by omega))
 have HV4:=hid (HV3.out.below hb4 hzw')
 have HW4:=hid (HW3.out.below hb4 (Nat.le_refl _))
 have XX:=hid hp4
 have XB:=hid (show ∀ q,blkB p x q→w3.1.size≤q∧q<w4.1.size from hp5)
 clear p0 p1 p2 p3 p4 hb4 HH3 HJ3 HV3 HW3 hx4 hp1 hp2 hp3 hp4 hp5
 go_wp2
 refine doReg10 _ _ _ _ _ _ _ _ _ _ _ _ _ _ _ _ _ _ _ _ _ _ _ _ _ _ _ _ _ _ _ _ _ _ _ _ _ _ _ _ _ _ _ _ _ _ _ _ _ _ _ _ _ _ _ _ _ _ _ _ _ _ _ _ _ _ _ _ _ _ _ _ _ _ (fun _=>undef) w.1.size x v a1 a2 a3 c1 c2 c3 w4.1.size p d1 d2 d3 _ (by simp;omega) (HJ4.out.below (below_alloc _ _) (by omega)) hf wf (by simp) (holds_new w4 _ 35) (XX.out.grow (below_alloc _ _)) (((hB4.alloc hB4.size _).cell (p:=⟨0,0,none⟩) hw0).trans HG.out) _ ?_
 rintro t10 zg g v1 v2 v3 w5 ⟨hb5,hzg,hzg',hv5,hg5,hq5⟩
 have hB5:Below w.1.size w w5:=(hB4.alloc hB4.size _).trans (hb5.mono (by simp;omega))
 have hA4:=hid (fun o=>below_alloc w4 o)
 have S5:DL w5 w.1.size x v a1 a2 a3 c1 c2 c3 (didC x v) (didB x v) (didV x v) w3.1.size (w4.1.size+1) zw w4.1.size zg b1 b2 b3 u1 u2 u3 p d1 d2 d3 g v1 v2 v3 x (didB x v):=
  ⟨(HH4.out.below (below_alloc _ _) (by omega)).below hb5 (by simp;omega),(HJ4.out.below (below_alloc _ _) (by omega)).below hb5 (by simp;omega),HC.out.below hB5 (Nat.le_refl _),(HV4.out.below (below_alloc _ _) (by omega)).below hb5 (by simp;omega),(((HW4.out.dn (Nat.zero_le _)).below (below_alloc _ _) (by omega)).below hb5 (by simp;omega)),(holds_new w4 _ 35).below hb5 (by simp),(XX.out.grow (below_alloc _ _)).grow hb5,XB.out,hv5,hg5,fun q hq=>⟨by have:=(hq5 q hq).1;simp at this;omega,(hq5 q hq).2.2⟩,hz3,by omega,hz4,by omega,by simp at hzg;omega,hzg'⟩
 rw [HY.out.1,HY.out.2.1,HY.out.2.2] at S5
 rw [HY.out.1] at HD
 have HS5:=hid S5
 clear hb5 hzg hzg' hv5 hg5 hq5 HH4 HJ4 HV4 HW4 XX XB S5 hA4 hB4 hy hco hve
 obtain ⟨q0,q1,q2,q3,q4,q5,q6⟩:=holds_dd HS5.out.vg
 obtain ⟨r0,r1,r2,r3,r4,r5,r6⟩:=holds_dd HS5.out.vw
 go_wp2_with fail
 refine (eqDid_any co ve y _ _ _ _ _ _ v1 v2 v3 u1 u2 u3 _ 0 _ 0 _ (Nat.le_refl _) (Nat.le_refl _) HD.out.fit (by exact HS5.out.gg.isIn (fun _ _=>Nat.zero_le _)) (by exact HS5.out.win)).mono ?_
 rintro e w6 ⟨rfl,hb6⟩
 have HS6:=hid (HS5.out.below hb6)
 have hB6:Below w.1.size w w6:=hB5.trans (hb6.mono hB5.size)
 clear hb6 HS5 q0 q1 q2 q3 q4 q5 q6 r0 r1 r2 r3 r4 r5 r6
 obtain ⟨p0,p1,p2,p3,p4⟩:=holds_bk HS6.out.bx
 obtain ⟨q0,q1,q2,q3,q4⟩:=holds_bk HS6.out.vx
 go_wp2
 go_region_with (first
  | (go_at_call 9;go_must (refine (toBk_any x a1 a2 a3 c1 c2 c3 _ 0 w.1.size (by exact hB6.size) hf (by exact HS6.out.arg.below ((Below.refl _ _).drew) (Nat.le_refl _))).mono ?_;rintro e w7 ⟨g1',g2',g3',d1',d2',d3',rfl,hx7,hb70⟩;have hb7:Below w6.1.size w6 w7:=((Below.refl _ _).drew).trans hb70;clear hb70;have HS7:=hid (HS6.out.below hb7);have HX7:=hid hx7;have HB7:=hid hb7;have hz7:=hb7.size;obtain ⟨r0,r1,r2,r3,r4⟩:=holds_bk HS7.out.vx;clear hx7 hb7))
  | (go_at_call 13;go_must (refine (eqBk_any x _ _ _ _ _ _ d1 d2 d3 d1' d2' d3' _ 0 w7.1.size w6.1.size w7.1.size (by exact Nat.le_refl _) (by exact Nat.le_refl _) hf (by exact HS7.out.xx.isIn (fun _ _=>Nat.zero_le _)) (by exact HX7.out.isIn)).mono ?_;rintro e w8 ⟨rfl,hb8⟩)))
 all_goals
  have hb78:Below w6.1.size w6 w8:=HB7.out.trans (hb8.mono hz7)
  have HS8:=hid (HS6.out.below hb78)
  have hB8:Below w.1.size w w8:=hB6.trans (hb78.mono hB6.size)
  clear p0 p1 p2 p3 p4 q0 q1 q2 q3 q4 r0 r1 r2 r3 r4 HS6 HX7 HS7 HB7 hb8 hb78
  obtain ⟨q0,q1,q2,q3,q4⟩:=holds_bk HS8.out.vx
  go_wp2_with fail
  refine (markBk_own x p d1 d2 d3 1 w8 lx1 lx2 lx3 (by decide) hmx HS8.out.xx).mono ?_
  rintro e w9 ⟨rfl,hx9,hf9⟩
  have HS9:=hid (HS8.out.markX 1 hx9 hf9)
  have hB9:Below w.1.size w w9:=hB8.trans (HS8.out.lowX hf9)
  obtain ⟨k9,hk9⟩:∃ k9,mkBk 1 x=k9:=⟨_,rfl⟩
  rw [hk9]
  clear q0 q1 q2 q3 q4 HS8 hB8 hx9 hf9
  obtain ⟨q0,q1,q2,q3,q4,q5,q6⟩:=holds_dd HS9.out.vg
  obtain ⟨r0,r1,r2,r3,r4,r5,r6⟩:=holds_dd HS9.out.vw
  go_wp2_with fail
  refine (eqDid_any co ve y _ _ _ _ _ _ v1 v2 v3 u1 u2 u3 _ 0 _ 0 _ (Nat.le_refl _) (Nat.le_refl _) HD.out.fit (by exact HS9.out.gg.isIn (fun _ _=>Nat.zero_le _)) (by exact HS9.out.win)).mono ?_
  rintro e w10 ⟨rfl,hb10⟩
  have HS10:=hid (HS9.out.below hb10)
  have hB10:Below w.1.size w w10:=hB9.trans (hb10.mono hB9.size)
  clear HS9 hB9 hb10 q0 q1 q2 q3 q4 q5 q6 r0 r1 r2 r3 r4 r5 r6
  obtain ⟨q0,q1,q2,q3,q4,q5,q6⟩:=holds_dd HS10.out.vg
  go_wp2_with fail
  refine (markDid_own co ve y g v1 v2 v3 1 w10 HD.out.o HD.out.h HD.out.t (by decide) HD.out.m HS10.out.gg).mono ?_
  rintro e w11 ⟨rfl,hg11,hf11⟩
  have HS11:=hid (HS10.out.markG 1 hg11 hf11)
  have hB11:Below w.1.size w w11:=hB10.trans (HS10.out.lowG hf11)
  obtain ⟨m9,hm9⟩:∃ m9,mkBk 1 y=m9:=⟨_,rfl⟩
  have HM9:=hid hm9
  rw [hm9]
  clear HS10 hB10 hg11 hf11 hm9 q0 q1 q2 q3 q4 q5 q6
  obtain ⟨q0,q1,q2,q3,q4,q5,q6⟩:=holds_dd HS11.out.vg
  go_wp2_with fail
  refine (heldDid_own co ve _ _ y g v1 v2 v3 1 w11 HD.out.o HD.out.h HD.out.t (by decide) HD.out.m HS11.out.gg).mono ?_
  rw [HM9.out]
  rintro e w12 ⟨rfl,hb12⟩
  have HS12:=hid (HS11.out.below hb12)
  have hB12:Below w.1.size w w12:=hB11.trans (hb12.mono hB11.size)
  clear HS11 hB11 hb12 q0 q1 q2 q3 q4 q5 q6
  go_wp2
  refine doReg27 _ _ _ _ _ _ _ _ _ _ _ _ _ _ _ _ _ _ _ _ _ _ _ _ _ _ _ _ _ _ _ _ _ _ _ _ _ _ _ _ _ _ _ _ _ _ _ _ _ _ _ _ _ _ _ _ _ _ _ _ _ _ _ _ _ _ _ _ _ _ _ _ _ _ (fun _=>undef) w.1.size x v a1 a2 a3 c1 c2 c3 w12 (by have:=HS12.out.o0;have:=HS12.out.o2;have:=HS12.out.o3;have:=HS12.out.o5;have:=HS12.out.o4;omega) HS12.out.bv hf wf HS12.out.bx HS12.out.arg ((hB12.cell (p:=⟨0,0,none⟩) hw0).trans HG.out) _ ?_
  rw [HY.out.1,HY.out.2.1,HY.out.2.2]
  rintro t27 zh gh t1 t2 t3 w14 ⟨hb14,hzh,hzh',hv14,hh14,hq14⟩
  have HS14:=hid (HS12.out.below hb14)
  have hB14:Below w.1.size w w14:=hB12.trans (hb14.mono hB12.size)
  have HH14:=hid hh14
  obtain ⟨q0,q1,q2,q3,q4,q5,q6⟩:=holds_dd hv14
  clear HS12 hB12 hb14 hh14 hq14 hv14 hzh
  obtain ⟨r0,r1,r2,r3,r4,r5,r6⟩:=holds_dd HS14.out.vw
  go_wp2_with fail
  refine (eqDid_any co ve y _ _ _ _ _ _ t1 t2 t3 u1 u2 u3 _ 0 _ 0 _ (Nat.le_refl _) (Nat.le_refl _) HD.out.fit (by exact HH14.out.isIn (fun _ _=>Nat.zero_le _)) (by exact HS14.out.win)).mono ?_
  rintro e w15 ⟨rfl,hb15⟩
  have HS15:=hid (HS14.out.below hb15)
  have hB15:Below w.1.size w w15:=hB14.trans (hb15.mono hB14.size)
  clear HS14 hB14 hb15 HH14 r0 r1 r2 r3 r4 r5 r6 q0 q1 q2 q3 q4 q5 q6
  obtain ⟨q0,q1,q2,q3,q4,q5,q6⟩:=holds_dd HS15.out.vg
  go_wp2_with fail
  refine (heldDid_own co ve _ _ y g v1 v2 v3 1 w15 HD.out.o HD.out.h HD.out.t (by decide) HD.out.m HS15.out.gg).mono ?_
  rw [HM9.out]
  rintro e w16 ⟨rfl,hb16⟩
  have hB16:Below w.1.size w w16:=hB15.trans (hb16.mono hB15.size)
  clear HS15 hB15 hb16 q0 q1 q2 q3 q4 q5 q6
  go_wp2
  go_ret
  exact ⟨rfl,hB16⟩
end Go.Proofs.YtllmmkchokkaaaaGreatDoor
