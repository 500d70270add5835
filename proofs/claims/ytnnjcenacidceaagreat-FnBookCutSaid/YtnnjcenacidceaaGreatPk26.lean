import Derived.Test.YtnnjcenacidceaaGreatPk07
import Derived.Test.YtnnjcenacidceaaGreatPk11
import Derived.Test.YtnnjcenacidceaaGreatPk04
import Derived.Test.YtnnjcenacidceaaGreatPk12
import Derived.Test.YtnnjcenacidceaaGreatPk16
set_option maxRecDepth 100000
namespace Go.Proofs.YtnnjcenacidceaaGreat
open Go.RowKit Go.Proofs.Tryz
structure Wt where
 kind:ByteArray
 name:ByteArray
 ver:Int
structure nW (x:Wt):Prop where
 z0:(x.kind.size:Int)<=140737488355328
 z1:(x.name.size:Int)<=140737488355328
structure Pu (w:World)(b o:Nat)(x:Wt):Prop where c0:w.cell? ⟨b,o,none⟩=some (.s x.kind)c1:w.cell? ⟨b,o+1,none⟩=some (.s x.name)c2:w.cell? ⟨b,o+2,none⟩=some (.i x.ver)
theorem Pu.below{w w':World}{B b o:Nat}{x:Wt}(h:Pu w b o x)(hb:Below B w w')(hB:b<B):Pu w' b o x:=have e:∀j,w'.cell? ⟨b,j,none⟩=w.cell? ⟨b,j,none⟩:=λj=>hb.cell (p:=⟨b,j,none⟩) hB
 ⟨(e _).trans h.c0,(e _).trans h.c1,(e _).trans h.c2⟩
def Qy (w:World)(lo hi:Nat)(ad:OA)(n:Nat)(x:Nat->Wt):Prop:=∀i,i<n->∃b off,ad=some ⟨b,off,none⟩/\lo<=b/\b<hi/\Pu w b (off+i*3) (x i)
theorem Qy.below{w w':World}{B lo hi:Nat}{ad:OA}{n:Nat}{x:Nat->Wt}(h:Qy w lo hi ad n x)(hb:Below B w w')(hB:hi<=B):Qy w' lo hi ad n x:=λi hi'=>by obtain⟨b,off,e1,e2,e3,e4⟩:=h i hi';exact⟨b,off,e1,e2,e3,e4.below hb Za⟩
theorem Qy.mono{w:World}{lo lo' hi hi':Nat}{ad:OA}{n:Nat}{x:Nat->Wt}(h:Qy w lo hi ad n x)(hl:lo'<=lo)(hh:hi<=hi'):Qy w lo' hi' ad n x:=λi hi'=>by obtain⟨b,off,e1,e2,e3,e4⟩:=h i hi';exact⟨b,off,e1,Za,Za,e4⟩
structure Vq (w:World)(g n m:Nat)(x:Nat->Wt):Prop where
 room:Lu w g (m*3)at_:∀i,i<n->Pu w g (i*3) (x i)
def wW (c:Nat->Value)(i:Nat)(y:Wt):Prop:=c (i*3)=.s y.kind/\c (i*3+1)=.s y.name/\c (i*3+2)=.i y.ver
structure Ow (w:World)(ad:OA)(g n:Nat)(x:Nat->Wt):Prop where addr:0<n->ad=some ⟨g,0,none⟩row:0<n->∃c,AN w g (n*3) c/\∀i,i<n->wW c i (x i)
theorem Ow.fr{w w':World}{ad:OA}{g n:Nat}{x:Nat->Wt}{P:Nat->Prop}(h:Ow w ad g n x)(hf:Ay P w w')(hp:0<n->¬P g):Ow w' ad g n x:=⟨h.addr,λh0=>by obtain⟨c,r,e⟩:=h.row h0;exact⟨c,r.fr hf (hp h0),e⟩⟩
theorem Ow.grow{w w':World}{ad:OA}{g n:Nat}{x:Nat->Wt}(h:Ow w ad g n x)(hf:Below w.1.size w w'):Ow w' ad g n x:=h.fr (Ar (P:=λ_=>False) hf) (λ_ h=>h)
theorem Ow.lt{w:World}{ad:OA}{g n:Nat}{x:Nat->Wt}(h:Ow w ad g n x)(h0:0<n):g<w.1.size:=by obtain⟨c,r,e⟩:=h.row h0;exact r.lt
theorem Vq.at{w:World}{g n:Nat}{x:Nat->Wt}(h:Vq w g n n x):Ow w (some ⟨g,0,none⟩) g n x:=by
 have e:∀j v,w.cell? ⟨g,j,none⟩=some v->(w.cell? ⟨g,j,none⟩).getD (.i 0)=v:=λj v h=>by rw[h];rfl
 refine⟨λ_=>rfl,λ_=>⟨λj=>(w.cell? ⟨g,j,none⟩).getD (.i 0),⟨h.room.lt,h.room.free,λj hj=>?_⟩,λi hi'=>?_⟩⟩;.obtain⟨u,hu⟩:=h.room.has j hj;rw[hu];rfl
 .have k:=h.at_ i hi';exact⟨(e (i*3) _ k.c0),(e (i*3+1) _ k.c1),(e (i*3+2) _ k.c2)⟩
end Go.Proofs.YtnnjcenacidceaaGreat
namespace Go.Proofs.YtnnjcenacidceaaGreat
open Go.RowKit Go.Proofs.Tryz
structure PC (w:World)(b o:Nat)(x:Wr):Prop where c0:w.cell? ⟨b,o,none⟩=some (.i x.op)c1:w.cell? ⟨b,o+1,none⟩=some (.s x.kind)c2:w.cell? ⟨b,o+2,none⟩=some (.s x.name)c3:w.cell? ⟨b,o+3,none⟩=some (.i x.seen)c4:w.cell? ⟨b,o+4,none⟩=some (.s x.text)c5:w.cell? ⟨b,o+5,none⟩=some (.s x.hold)
theorem PC.below{w w':World}{B b o:Nat}{x:Wr}(h:PC w b o x)(hb:Below B w w')(hB:b<B):PC w' b o x:=have e:∀j,w'.cell? ⟨b,j,none⟩=w.cell? ⟨b,j,none⟩:=λj=>hb.cell (p:=⟨b,j,none⟩) hB
 ⟨(e _).trans h.c0,(e _).trans h.c1,(e _).trans h.c2,(e _).trans h.c3,(e _).trans h.c4,(e _).trans h.c5⟩
def Qz (w:World)(lo hi:Nat)(ad:OA)(n:Nat)(x:Nat->Wr):Prop:=∀i,i<n->∃b off,ad=some ⟨b,off,none⟩/\lo<=b/\b<hi/\PC w b (off+i*6) (x i)
theorem Qz.below{w w':World}{B lo hi:Nat}{ad:OA}{n:Nat}{x:Nat->Wr}(h:Qz w lo hi ad n x)(hb:Below B w w')(hB:hi<=B):Qz w' lo hi ad n x:=λi hi'=>by obtain⟨b,off,e1,e2,e3,e4⟩:=h i hi';exact⟨b,off,e1,e2,e3,e4.below hb Za⟩
theorem Qz.mono{w:World}{lo lo' hi hi':Nat}{ad:OA}{n:Nat}{x:Nat->Wr}(h:Qz w lo hi ad n x)(hl:lo'<=lo)(hh:hi<=hi'):Qz w lo' hi' ad n x:=λi hi'=>by obtain⟨b,off,e1,e2,e3,e4⟩:=h i hi';exact⟨b,off,e1,Za,Za,e4⟩
structure Vf (w:World)(g n m:Nat)(x:Nat->Wr):Prop where
 room:Lu w g (m*6)at_:∀i,i<n->PC w g (i*6) (x i)
def wU (c:Nat->Value)(i:Nat)(y:Wr):Prop:=c (i*6)=.i y.op/\c (i*6+1)=.s y.kind/\c (i*6+2)=.s y.name/\c (i*6+3)=.i y.seen/\c (i*6+4)=.s y.text/\c (i*6+5)=.s y.hold
structure Ox (w:World)(ad:OA)(g n:Nat)(x:Nat->Wr):Prop where addr:0<n->ad=some ⟨g,0,none⟩row:0<n->∃c,AN w g (n*6) c/\∀i,i<n->wU c i (x i)
theorem Ox.fr{w w':World}{ad:OA}{g n:Nat}{x:Nat->Wr}{P:Nat->Prop}(h:Ox w ad g n x)(hf:Ay P w w')(hp:0<n->¬P g):Ox w' ad g n x:=⟨h.addr,λh0=>by obtain⟨c,r,e⟩:=h.row h0;exact⟨c,r.fr hf (hp h0),e⟩⟩
theorem Ox.grow{w w':World}{ad:OA}{g n:Nat}{x:Nat->Wr}(h:Ox w ad g n x)(hf:Below w.1.size w w'):Ox w' ad g n x:=h.fr (Ar (P:=λ_=>False) hf) (λ_ h=>h)
theorem Ox.lt{w:World}{ad:OA}{g n:Nat}{x:Nat->Wr}(h:Ox w ad g n x)(h0:0<n):g<w.1.size:=by obtain⟨c,r,e⟩:=h.row h0;exact r.lt
theorem Vf.at{w:World}{g n:Nat}{x:Nat->Wr}(h:Vf w g n n x):Ox w (some ⟨g,0,none⟩) g n x:=by
 have e:∀j v,w.cell? ⟨g,j,none⟩=some v->(w.cell? ⟨g,j,none⟩).getD (.i 0)=v:=λj v h=>by rw[h];rfl
 refine⟨λ_=>rfl,λ_=>⟨λj=>(w.cell? ⟨g,j,none⟩).getD (.i 0),⟨h.room.lt,h.room.free,λj hj=>?_⟩,λi hi'=>?_⟩⟩;.obtain⟨u,hu⟩:=h.room.has j hj;rw[hu];rfl
 .have k:=h.at_ i hi';exact⟨(e (i*6) _ k.c0),(e (i*6+1) _ k.c1),(e (i*6+2) _ k.c2),(e (i*6+3) _ k.c3),(e (i*6+4) _ k.c4),(e (i*6+5) _ k.c5)⟩
end Go.Proofs.YtnnjcenacidceaaGreat
namespace Go.Proofs.YtnnjcenacidceaaGreat
open Go.RowKit Go.Proofs.Tryz
structure Bu where
 wn:Nat
 ws:Nat->Wt
 rn:Nat
 rs:Nat->Wr
abbrev vU (x:Bu)(a b:OA)(d e:Nat):Array Value:=#[.l a x.wn d,.l b x.rn e]
abbrev sE (x:Bu)(a b:OA)(d e:Nat):List Value:=[.l a x.wn d,.l b x.rn e]
structure OC (x:Bu):Prop where
 w:(x.wn:Int)<=1048576
 r:(x.rn:Int)<=1048576
 ws:∀i,i<x.wn->nW (x.ws i)rs:∀i,i<x.rn->Sy (x.rs i)
structure Lv (w:World)(lo hi:Nat)(x:Bu)(a1 a2:OA):Prop where
 wt:Qy w lo hi a1 x.wn x.ws
 wr:Qz w lo hi a2 x.rn x.rs
theorem Lv.below{w w':World}{B lo hi:Nat}{x:Bu}{a1 a2:OA}(h:Lv w lo hi x a1 a2)(hb:Below B w w')(hB:hi<=B):Lv w' lo hi x a1 a2:=⟨h.wt.below hb hB,h.wr.below hb hB⟩
theorem Lv.mono{w:World}{lo lo' hi hi':Nat}{x:Bu}{a1 a2:OA}(h:Lv w lo hi x a1 a2)(hl:lo'<=lo)(hh:hi<=hi'):Lv w lo' hi' x a1 a2:=⟨h.wt.mono hl hh,h.wr.mono hl hh⟩
theorem Lv.grow{w w':World}{lo:Nat}{x:Bu}{a1 a2:OA}(h:Lv w lo w.1.size x a1 a2)(hb:Below w.1.size w w'):Lv w' lo w'.1.size x a1 a2:=(h.below hb AQ).mono AQ hb.size
structure YQ (w:World)(x:Bu)(a1 a2:OA)(g1 g2:Nat):Prop where
 wt:Ow w a1 g1 x.wn x.ws
 wr:Ox w a2 g2 x.rn x.rs
 d:0<x.wn->0<x.rn->¬g1=g2
def xA (x:Bu)(g1 g2 k:Nat):Prop:=(0<x.wn/\k=g1)\/(0<x.rn/\k=g2)
theorem YQ.fr{w w':World}{x:Bu}{a1 a2:OA}{g1 g2:Nat}{Q:Nat->Prop}(h:YQ w x a1 a2 g1 g2)(hf:Ay Q w w')(hq:∀k,xA x g1 g2 k->¬Q k):YQ w' x a1 a2 g1 g2:=⟨h.wt.fr hf (λh0=>hq _ (AB ⟨h0,rfl⟩)),h.wr.fr hf (λh0=>hq _ (AE ⟨h0,rfl⟩)),h.d⟩
theorem YQ.grow{w w':World}{x:Bu}{a1 a2:OA}{g1 g2:Nat}(h:YQ w x a1 a2 g1 g2)(hf:Below w.1.size w w'):YQ w' x a1 a2 g1 g2:=⟨h.wt.grow hf,h.wr.grow hf,h.d⟩
end Go.Proofs.YtnnjcenacidceaaGreat
namespace Go.Proofs.YtnnjcenacidceaaGreat
open Go.RowKit Go.Maps Go.Proofs.Tryz
structure VB (B:Bk):Prop where
 n0:0<=B.floor
 n1:B.floor<=B.now
 n2:B.now<=1000000
 on:B.on<=100
 asc:Lw B.on B.os=true
 fit:∀i,i<B.on->Bq (B.os i) B.now=true/\C6 (B.os i)=true
 vd:EV B.on B.os=true
 hn:B.hn<=200
 hnow:(B.hn:Int)=B.now-B.floor
 ver:∀i,i<B.hn->(B.hs i).ver=B.floor+1+i
 chg:∀i,i<B.hn->Lx (B.hs i) B.now=true
 liv:∀j,j<B.hn->L6 B.floor B.hs j=true
 agO:∀i,i<B.on->agO B.floor B.os B.hn B.hs i=true
 agH:∀i,i<B.hn->agH B.on B.os B.hn B.hs i=true
 ti:LS B.tn B.ts B.now=true
theorem XP{B:Bk}(h:Bg (Me B) 7=true):VB B:=by have c:=AV.1 h;have c0:=O8 (c 0 Zb);have c1:=c 1 Zb;have c2:=c 2 Zb;have c3:=c 3 Zb;have c4:=c 4 Zb;have c5:=c 5 Zb;have c6:=c 6 Zb;simp only[Me,Fg,KW,QO,MB,Am,decide_eq_true_eq,AV]at c1 c2 c3 c4 c5 c6;exact⟨c0.1,c0.2.1,c0.2.2,c1.1,c1.2.1,c1.2.2,c2,c3.1,c3.2.1,λi hi=>(c3.2.2 i hi).1,λi hi=>(c3.2.2 i hi).2,c4,c5.1,c5.2,c6⟩
theorem O9{B:Bk}(h:VB B):Bg (Me B) 7=true:=by
 refine AV.2 λi hi=>?_;have hn0:=h.n0;have hn1:=h.n1;have hn2:=h.n2;rcases(show i=0\/i=1\/i=2\/i=3\/i=4\/i=5\/i=6 by omega)with rfl|rfl|rfl|rfl|rfl|rfl|rfl;.show No B.now B.floor=true;unfold No;rw[Lq ⟨Za,Za⟩,Lq ⟨Za,Za⟩];rfl
 .simp only[Me,Fg,MB,Am,decide_eq_true_eq,AV];exact⟨h.on,h.asc,h.fit⟩
 .exact h.vd
 .simp only[Me,KW,Am,decide_eq_true_eq,AV];exact⟨h.hn,h.hnow,λi hi=>⟨h.ver i hi,h.chg i hi⟩⟩
 .exact AV.2 h.liv
 .simp only[Me,QO,Am,AV];exact⟨h.agO,h.agH⟩
 .exact h.ti
theorem Th (h:Nat->Ch)(a b:ByteArray):∀n,LQ (λi=>h (i+1)) a b n=match LQ h a b (n+1)with|some (j+1)=>some j|_=>none
 |0=>by
  show none=_;unfold LQ;split
  .rename_i e;split at e;.cases e
   .cases e
  .rfl
 |n+1=>by
  have ih:=Th h a b n;show(if(h (n+1)).ob.kind=a/\(h (n+1)).ob.name=b then some n else LQ (λi=>h (i+1)) a b n)=_;rw[show LQ h a b (n+1+1)=(if(h (n+1)).ob.kind=a/\(h (n+1)).ob.name=b then some (n+1)else LQ h a b (n+1))from rfl];by_cases e:(h (n+1)).ob.kind=a/\(h (n+1)).ob.name=b;.rw[if_pos e,if_pos e]
  .rw[if_neg e,if_neg e];exact ih
def MG (B:Bk):Bk:={B with floor:=(B.hs 0).ver,hn:=B.hn-1,hs:=λi=>B.hs (i+1)}
theorem Mz{x:Ob}{now:Int}(h:Bq x now=true):1<=x.born/\x.born<=x.ver/\1<=x.ver/\x.ver<=now:=by unfold Bq at h;simp only[Am]at h;have a:=M9 h.2.2.1;have b:=M9 h.2.2.2.1;exact⟨b.1,b.2,a.1,a.2⟩
theorem YL{c:Ch}{now:Int}(h:Lx c now=true):c.ob.ver=c.ver/\Bq c.ob now=true:=by unfold Lx at h;simp only[Am,beq_iff_eq]at h;exact⟨h.1,h.2.1⟩
theorem fL{x z:Ob}(h:BR x z=true):x.ver=z.ver:=by unfold BR at h;simp only[Am,decide_eq_true_eq]at h;exact h.2.2.1
theorem XU{B:Bk}(h:VB B)(h0:0<B.hn):VB (MG B):=by
 have hv0:(B.hs 0).ver=B.floor+1:=by have:=h.ver 0 h0;omega
 have hnow:=h.hnow;have hl:∀a b m,LQ (MG B).hs a b m=match LQ B.hs a b (m+1)with|some (j+1)=>some j|_=>none:=λa b m=>Th B.hs a b m;obtain⟨q1,q2⟩:=YL (h.chg 0 h0);have q3:=Mz q2;refine⟨?_,?_,h.n2,h.on,h.asc,h.fit,h.vd,?_,?_,λi hi=>?_,λi hi=>?_,λj hj=>?_,λi hi=>?_,λi hi=>?_,h.ti⟩;.show 0<=(B.hs 0).ver;have:=h.n0;omega
 .show(B.hs 0).ver<=B.now;omega
 .show B.hn-1<=200;have:=h.hn;omega
 .show((B.hn-1:Nat):Int)=B.now-(B.hs 0).ver;omega
 .show(B.hs (i+1)).ver=(B.hs 0).ver+1+i;have hi:i<B.hn-1:=hi;have:=h.ver (i+1) Za;omega
 .have hi:i<B.hn-1:=hi;exact h.chg (i+1) Za
 .have hj:j<B.hn-1:=hj;have o:=h.liv (j+1) Za;unfold L6 at o⊢;show(match LQ (MG B).hs (B.hs (j+1)).ob.kind (B.hs (j+1)).ob.name j with|none=>My (B.hs (j+1)) (B.hs 0).ver|some i=>Mg (B.hs (i+1)) (B.hs (j+1)))=true;rw[hl];cases e:LQ B.hs (B.hs (j+1)).ob.kind (B.hs (j+1)).ob.name (j+1)with
  |none=>
   rw[e]at o;show My _ _=true;unfold My at o⊢;simp only[Ms,decide_eq_true_eq]at o⊢;rcases o with o|o;.exact AB o
   .exact AE Za
  |some k=>rw[e]at o;cases k with
   |zero=>show My _ _=true;have o:Mg (B.hs 0) (B.hs (j+1))=true:=o;unfold My;unfold Mg at o;cases hc:OT (B.hs (j+1))with
    |true=>rfl
    |false=>rw[hc]at o;cases hg:(B.hs 0).gone with
     |true=>rw[hg]at o;simp at o
     |false=>rw[hg]at o;simp only[Bool.or_self,G7,if_false,beq_iff_eq]at o;simp only[Bool.false_or,decide_eq_true_eq];omega
   |succ k=>exact o
 .have o:=h.agO i hi;unfold Go.Proofs.YtnnjcenacidceaaGreat.agO at o⊢;show(match LQ (MG B).hs (B.os i).kind (B.os i).name (B.hn-1)with|none=>decide ((B.os i).ver<=(B.hs 0).ver)|some j=>!(B.hs (j+1)).gone&&BR (B.os i) (B.hs (j+1)).ob)=true;rw[hl,show B.hn-1+1=B.hn by omega];cases e:LQ B.hs (B.os i).kind (B.os i).name B.hn with
  |none=>rw[e]at o;have o:=of_decide_eq_true o;exact decide_eq_true Za
  |some k=>rw[e]at o;cases k with
   |zero=>have o:(!(B.hs 0).gone&&BR (B.os i) (B.hs 0).ob)=true:=o;simp only[Am]at o;have:=fL o.2;exact decide_eq_true Za
   |succ k=>exact o
 .have hi:i<B.hn-1:=hi;have o:=h.agH (i+1) Za;unfold Go.Proofs.YtnnjcenacidceaaGreat.agH at o⊢;show(!decide (LQ (MG B).hs (B.hs (i+1)).ob.kind (B.hs (i+1)).ob.name (B.hn-1)=some i)||((B.hs (i+1)).gone||(Nq B.os (B.hs (i+1)).ob.kind (B.hs (i+1)).ob.name B.on).isSome))=true;rw[hl,show B.hn-1+1=B.hn by omega];cases e:LQ B.hs (B.hs (i+1)).ob.kind (B.hs (i+1)).ob.name B.hn with
  |none=>rfl
  |some k=>rw[e]at o;cases k with
   |zero=>rfl
   |succ k=>simpa using o
end Go.Proofs.YtnnjcenacidceaaGreat
namespace Go.Proofs.YtnnjcenacidceaaGreat
open Go.RowKit Go.Maps Go.Proofs.Tryz
def M6 (B:Bk)(c:Ch)(m:Nat)(y:Nat->Ob):Bk:={B with now:=B.now+1,on:=m,os:=y,hn:=B.hn+1,hs:=λi=>if i<B.hn then B.hs i else c}
def gJ (x z:Ob):Prop:=x.kind=z.kind/\x.name=z.name
theorem Ss{x:Ob}{n m:Int}(h:Bq x n=true)(hn:n<=m):Bq x m=true:=by unfold Bq at h⊢;simp only[Am]at h⊢;have:=M9 h.2.2.1;exact⟨h.1,h.2.1,Lq ⟨Za,Za⟩,h.2.2.2⟩
theorem dV{c:Ch}{n m:Int}(h:Lx c n=true)(hn:n<=m):Lx c m=true:=by unfold Lx at h⊢;simp only[Am]at h⊢;exact⟨h.1,Ss h.2.1 hn,h.2.2⟩
theorem bP{k:Nat}{x:Nat->Ti}{n m:Int}(h:LS k x n=true)(hn:n<=m):LS k x m=true:=by unfold LS at h⊢;simp only[Am,AV]at h⊢;refine⟨h.1,h.2.1,λi hi=>?_⟩;have:=h.2.2 i hi;unfold NH at this⊢;simp only[Am]at this⊢;have q:=M9 this.2.2.2.2;exact⟨this.1,this.2.1,this.2.2.1,this.2.2.2.1,Lq ⟨q.1,Za⟩⟩
theorem Vb{h h':Nat->Ch}{a b:ByteArray}:∀{n:Nat},(∀i,i<n->h' i=h i)->LQ h' a b n=LQ h a b n
 |0,_=>rfl
 |n+1,e=>by unfold LQ;rw[e n Za,Vb λi hi=>e i Za]
theorem OV{x:Nat->Ob}{a b:ByteArray}:∀{n i:Nat},i<n->(x i).kind=a/\(x i).name=b->(Nq x a b n).isSome=true
 |0,_,h,_=>absurd h (Ai _)
 |n+1,i,h,e=>by unfold Nq;cases q:Nq x a b n with
  |some k=>rfl
  |none=>
   by_cases hi:i=n;.subst hi;rw[if_pos e];rfl
   .have:=OV (n:=n) Za e;rw[q]at this;cases this
structure nU (B:Bk)(c:Ch)(m:Nat)(y:Nat->Ob):Prop where
 hn:B.hn<200
 now:B.now<1000000
 le:m<=100
 asc:Lw m y=true
 vd:EV m y=true
 from_:∀i,i<m->(y i=c.ob/\c.gone=false)\/∃j,j<B.on/\y i=B.os j/\¬gJ (B.os j) c.ob
 keep:∀j,j<B.on->¬gJ (B.os j) c.ob->∃i,i<m/\y i=B.os j
 new:c.gone=false->∃i,i<m/\y i=c.ob
 ver:c.ver=B.now+1
 over:c.ob.ver=B.now+1
 parts:Bq c.ob (B.now+1)=true
 st:(if c.gone then NX c.ob else C6 c.ob)=true
 fol:(match LQ B.hs c.ob.kind c.ob.name B.hn with|none=>My c B.floor|some i=>Mg (B.hs i) c)=true
theorem Yz (x:Ob):BR x x=true:=by unfold BR V7;simp[AV]
theorem gN{B:Bk}{c:Ch}{m:Nat}{y:Nat->Ob}(h:VB B)(a:nU B c m y):VB (M6 B c m y):=by
 have hl:∀p q k,k<=B.hn->LQ (M6 B c m y).hs p q k=LQ B.hs p q k:=λp q k hk=>Vb λi hi=>if_pos Za;have hl1:∀p q,LQ (M6 B c m y).hs p q (B.hn+1)=if c.ob.kind=p/\c.ob.name=q then some B.hn else LQ B.hs p q B.hn:=λp q=>by show(if((M6 B c m y).hs B.hn).ob.kind=p/\((M6 B c m y).hs B.hn).ob.name=q then some B.hn else LQ (M6 B c m y).hs p q B.hn)=_;rw[hl _ _ _ AQ,show(M6 B c m y).hs B.hn=c from if_neg (AY _)]
 have hh:∀i,i<B.hn->(M6 B c m y).hs i=B.hs i:=λi hi=>if_pos hi;have hc:(M6 B c m y).hs B.hn=c:=if_neg (AY _);have hnow:=h.hnow;have hnw:=a.now;refine⟨h.n0,?_,?_,a.le,a.asc,λi hi=>?_,a.vd,?_,?_,λi hi=>?_,λi hi=>?_,λj hj=>?_,λi hi=>?_,λi hi=>?_,bP h.ti (by show B.now<=B.now+1;omega)⟩;.show B.floor<=B.now+1;have:=h.n1;omega
 .show B.now+1<=1000000;omega
 .show Bq (y i) (B.now+1)=true/\C6 (y i)=true;rcases a.from_ i hi with⟨e,g⟩|⟨j,hj,e,_⟩;.rw[e];have s:=a.st;rw[g]at s;exact⟨a.parts,s⟩
  .rw[e];exact⟨Ss (h.fit j hj).1 Za,(h.fit j hj).2⟩
 .show B.hn+1<=200;have:=a.hn;omega
 .show((B.hn+1:Nat):Int)=B.now+1-B.floor;omega
 .by_cases e:i<B.hn;.rw[hh i e];exact h.ver i e
  .have hi:i<B.hn+1:=hi;obtain rfl:i=B.hn:=Za;rw[hc,a.ver];show B.now+1=B.floor+1+(B.hn:Int);omega
 .by_cases e:i<B.hn;.rw[hh i e];exact dV (h.chg i e) (by show B.now<=B.now+1;omega)
  .have hi:i<B.hn+1:=hi;obtain rfl:i=B.hn:=Za;rw[hc];unfold Lx;simp only[Am,beq_iff_eq];exact⟨by rw[a.over,a.ver],a.parts,a.st⟩
 .by_cases e:j<B.hn;.have o:=h.liv j e;unfold L6 at o⊢;rw[hh j e,hl _ _ _ Za];cases q:LQ B.hs (B.hs j).ob.kind (B.hs j).ob.name j with
   |none=>rw[q]at o;exact o
   |some k=>rw[q]at o;show Mg ((M6 B c m y).hs k) (B.hs j)=true;rw[hh k (by have:=(Mi q).1;omega)];exact o
  .have hj:j<B.hn+1:=hj;obtain rfl:j=B.hn:=Za;have o:=a.fol;unfold L6;rw[hc,hl _ _ _ AQ];cases q:LQ B.hs c.ob.kind c.ob.name B.hn with
   |none=>rw[q]at o;exact o
   |some k=>rw[q]at o;show Mg ((M6 B c m y).hs k) c=true;rw[hh k (Mi q).1];exact o
 .show agO B.floor y (B.hn+1) (M6 B c m y).hs i=true;unfold Go.Proofs.YtnnjcenacidceaaGreat.agO;rw[hl1];rcases a.from_ i hi with⟨e,g⟩|⟨j,hj,e,hk⟩;.rw[e,if_pos ⟨rfl,rfl⟩];show(!((M6 B c m y).hs B.hn).gone&&BR c.ob ((M6 B c m y).hs B.hn).ob)=true;rw[hc,g,Yz];rfl
  .rw[e,if_neg (λq=>hk ⟨q.1.symm,q.2.symm⟩)];have o:=h.agO j hj;unfold Go.Proofs.YtnnjcenacidceaaGreat.agO at o;cases q:LQ B.hs (B.os j).kind (B.os j).name B.hn with
   |none=>rw[q]at o;exact o
   |some k=>rw[q]at o;show(!((M6 B c m y).hs k).gone&&BR (B.os j) ((M6 B c m y).hs k).ob)=true;rw[hh k (Mi q).1];exact o
 .show agH m y (B.hn+1) (M6 B c m y).hs i=true;unfold Go.Proofs.YtnnjcenacidceaaGreat.agH;rw[hl1];by_cases e:i<B.hn
  .rw[hh i e];by_cases k:c.ob.kind=(B.hs i).ob.kind/\c.ob.name=(B.hs i).ob.name
   .rw[if_pos k];have:¬(some B.hn=some i):=Zd;simp[this]
   .rw[if_neg k];have o:=h.agH i e;unfold Go.Proofs.YtnnjcenacidceaaGreat.agH at o;simp only[Ms]at o⊢;rcases o with o|o|o;.exact AB o
    .exact AE (AB o)
    .refine AE (AE ?_);obtain⟨j,hj⟩:=Option.isSome_iff_exists.1 o;obtain⟨j1,j2,j3⟩:=OU hj;obtain⟨l,l1,l2⟩:=a.keep j j1 (λq=>k ⟨by rw[<-q.1];exact j2,by rw[<-q.2];exact j3⟩);exact OV l1 (by rw[l2];exact⟨j2,j3⟩)
  .have hi:i<B.hn+1:=hi;obtain rfl:i=B.hn:=Za;rw[hc,if_pos ⟨rfl,rfl⟩];cases g:c.gone with
   |true=>simp
   |false=>obtain⟨l,l1,l2⟩:=a.new g;have:=OV (x:=y) (a:=c.ob.kind) (b:=c.ob.name) l1 (by rw[l2];exact⟨rfl,rfl⟩);simp[this]
end Go.Proofs.YtnnjcenacidceaaGreat
namespace Go.Proofs.YtnnjcenacidceaaGreat
open Go.RowKit Go.Maps Go.Proofs.Tryz
theorem cJ (B:Bk)(v:Wr)(ve:Int):(M8 B v ve).ver=ve:=by
 unfold M8;split;.rfl
 .split;.rfl
  .split;.rfl
   .split<;>rfl
theorem Si{B:Bk}{v:Wr}(h:Ed B v=0):¬(B4 B.os v.kind v.name B.on=decide (v.op=1)):=by intro e;unfold Ed at h;rw[if_pos e]at h;cases h
theorem aC{v:Wr}(h:LF v=true):BB v.kind=true/\BB v.name=true/\v.text.size<=300/\(PP v.hold=true\/BB v.hold=true)/\LR v=true:=by unfold LF KG at h;simp only[Am,Ms,decide_eq_true_eq]at h;exact⟨h.1.1,h.1.2.1,h.1.2.2.2.1,h.1.2.2.2.2,h.2⟩
theorem bL{v:Wr}(h:LR v=true)(ho:v.op=4\/v.op=5):PP v.hold=false:=by unfold LR at h;rcases ho with ho|ho<;>(rw[ho]at h;simp at h;simpa using h.2)
theorem Xc{n:Nat}{s:Nat->ByteArray}(h:MU n s)(hn:∀i,i<n->BB (s i)=true):SN n s=true:=by unfold SN;refine AV.2 λi hi=>?_;rw[hn i hi,Bool.true_and];cases i with
 |zero=>rfl
 |succ k=>simpa using h k (k+1) Za hi
theorem P9{n:Nat}{s:Nat->ByteArray}(h:SN n s=true):∀i,i<n->BB (s i)=true:=λi hi=>by have:=AV.1 h i hi;simp only[Am]at this;exact this.1
theorem eM{n:Nat}{x:Nat->Ob}(h:UY n x):Lw n x=true:=by unfold Lw;refine AV.2 λi hi=>?_;cases i with
 |zero=>rfl
 |succ k=>simpa using h k (k+1) Za hi
theorem kQ (x:Ob):Fi x x=false:=by have h:=(Np x x).2 ⟨rfl,rfl⟩;cases e:Fi x x with
 |false=>rfl
 |true=>have:=(Mp x x).2 e;omega
theorem UZ (x z:Ob):EU x z=0↔gJ x z:=by
 unfold gJ;have h:=Qi x z;constructor;.intro e;rw[e]at h;exact of_decide_eq_true h.symm
 .intro e;rw[decide_eq_true e]at h;exact eq_of_beq h
theorem S0 (o:Ob):∀(l:List Ob)(z:Ob),z∈M5 o l->z=o\/(z∈l/\¬EU z o=0)
 |[],z,h=>AB (by simpa[M5]using h)
 |y::r,z,h=>by
  unfold M5 at h;by_cases hb:Fi y o=true
  .rw[if_pos hb]at h;rcases Fy.1 h with e|e
   .subst e;exact AE ⟨MJ,by have:=(Mp z o).2 hb;omega⟩
   .rcases S0 o r z e with q|q;.exact AB q
    .exact AE ⟨L1 _ q.1,q.2⟩
  .rw[if_neg hb]at h;rcases Fy.1 h with e|e;.exact AB e
   .have:=Dj.1 e;exact AE ⟨this.1,of_decide_eq_true this.2⟩
theorem UL (o:Ob):∀l:List Ob,o∈M5 o l
 |[]=>by simp[M5]
 |y::r=>by
  unfold M5;split;.exact L1 _ (UL o r)
  .exact MJ
theorem Tx (o:Ob):∀(l:List Ob)(z:Ob),z∈l->¬EU z o=0->z∈M5 o l
 |y::r,z,h,hk=>by
  unfold M5;split
  .rcases Fy.1 h with e|e;.subst e;exact MJ
   .exact L1 _ (Tx o r z e hk)
  .exact L1 _ (Dj.2 ⟨h,decide_eq_true hk⟩)
theorem YI{o:Ob}{g:Bool}{l:List Ob}{z:Ob}(h:z∈Ry o g l):(z=o/\g=false)\/(z∈l/\¬EU z o=0):=by unfold Ry at h;cases g with
 |true=>have:=Dj.1 h;exact AE ⟨this.1,of_decide_eq_true this.2⟩
 |false=>
  rcases S0 o l z h with q|q;.exact AB ⟨q,rfl⟩
  .exact AE q
theorem YE{o:Ob}{g:Bool}{l:List Ob}{z:Ob}(h:z∈l)(hk:¬EU z o=0):z∈Ry o g l:=by unfold Ry;cases g with
 |true=>exact Dj.2 ⟨h,decide_eq_true hk⟩
 |false=>exact Tx o l z h hk
theorem PD{m:Nat}{y:Nat->Ob}{z:Ob}:z∈Nh m y↔∃i,i<m/\y i=z:=by unfold Nh;simp[Ov,]
end Go.Proofs.YtnnjcenacidceaaGreat
