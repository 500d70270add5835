import Derived.Test.YtofencldleijcaaGreatPk06
import Derived.Test.YtofencldleijcaaGreatPk10
import Derived.Test.YtofencldleijcaaGreatPk03
import Derived.Test.YtofencldleijcaaGreatPk11
import Derived.Test.YtofencldleijcaaGreatPk16
set_option maxRecDepth 100000
namespace Go.Proofs.YtofencldleijcaaGreat
open Go.RowKit Go.Proofs.Tryz
structure Wt where
 kind:ByteArray
 name:ByteArray
 ver:Int
structure dN (x:Wt):Prop where
 z0:(x.kind.size:Int)<=140737488355328
 z1:(x.name.size:Int)<=140737488355328
structure Li (w:World)(b o:Nat)(x:Wt):Prop where c0:w.cell? ⟨b,o,none⟩=some (.s x.kind)c1:w.cell? ⟨b,o+1,none⟩=some (.s x.name)c2:w.cell? ⟨b,o+2,none⟩=some (.i x.ver)
theorem Li.below{w w':World}{B b o:Nat}{x:Wt}(h:Li w b o x)(hb:Below B w w')(hB:b<B):Li w' b o x:=have e:∀j,w'.cell? ⟨b,j,none⟩=w.cell? ⟨b,j,none⟩:=λj=>hb.cell (p:=⟨b,j,none⟩) hB
 ⟨(e _).trans h.c0,(e _).trans h.c1,(e _).trans h.c2⟩
def Mk (w:World)(lo hi:Nat)(ad:OA)(n:Nat)(x:Nat->Wt):Prop:=∀i,i<n->∃b off,ad=some ⟨b,off,none⟩/\lo<=b/\b<hi/\Li w b (off+i*3) (x i)
theorem Mk.below{w w':World}{B lo hi:Nat}{ad:OA}{n:Nat}{x:Nat->Wt}(h:Mk w lo hi ad n x)(hb:Below B w w')(hB:hi<=B):Mk w' lo hi ad n x:=λi hi'=>by obtain⟨b,off,e1,e2,e3,e4⟩:=h i hi';exact⟨b,off,e1,e2,e3,e4.below hb Zb⟩
theorem Mk.mono{w:World}{lo lo' hi hi':Nat}{ad:OA}{n:Nat}{x:Nat->Wt}(h:Mk w lo hi ad n x)(hl:lo'<=lo)(hh:hi<=hi'):Mk w lo' hi' ad n x:=λi hi'=>by obtain⟨b,off,e1,e2,e3,e4⟩:=h i hi';exact⟨b,off,e1,Zb,Zb,e4⟩
structure Rs (w:World)(g n m:Nat)(x:Nat->Wt):Prop where
 room:Fk w g (m*3)at_:∀i,i<n->Li w g (i*3) (x i)
def nN (c:Nat->Value)(i:Nat)(y:Wt):Prop:=c (i*3)=.s y.kind/\c (i*3+1)=.s y.name/\c (i*3+2)=.i y.ver
structure Kt (w:World)(ad:OA)(g n:Nat)(x:Nat->Wt):Prop where addr:0<n->ad=some ⟨g,0,none⟩row:0<n->∃c,AM w g (n*3) c/\∀i,i<n->nN c i (x i)
theorem Kt.fr{w w':World}{ad:OA}{g n:Nat}{x:Nat->Wt}{P:Nat->Prop}(h:Kt w ad g n x)(hf:AB P w w')(hp:0<n->¬P g):Kt w' ad g n x:=⟨h.addr,λh0=>by obtain⟨c,r,e⟩:=h.row h0;exact⟨c,r.fr hf (hp h0),e⟩⟩
theorem Kt.grow{w w':World}{ad:OA}{g n:Nat}{x:Nat->Wt}(h:Kt w ad g n x)(hf:Below w.1.size w w'):Kt w' ad g n x:=h.fr (Ap (P:=λ_=>False) hf) (λ_ h=>h)
theorem Kt.lt{w:World}{ad:OA}{g n:Nat}{x:Nat->Wt}(h:Kt w ad g n x)(h0:0<n):g<w.1.size:=by obtain⟨c,r,e⟩:=h.row h0;exact r.lt
theorem Rs.at{w:World}{g n:Nat}{x:Nat->Wt}(h:Rs w g n n x):Kt w (some ⟨g,0,none⟩) g n x:=by
 have e:∀j v,w.cell? ⟨g,j,none⟩=some v->(w.cell? ⟨g,j,none⟩).getD (.i 0)=v:=λj v h=>by rw[h];rfl
 refine⟨λ_=>rfl,λ_=>⟨λj=>(w.cell? ⟨g,j,none⟩).getD (.i 0),⟨h.room.lt,h.room.free,λj hj=>?_⟩,λi hi'=>?_⟩⟩;.obtain⟨u,hu⟩:=h.room.has j hj;rw[hu];rfl
 .have k:=h.at_ i hi';exact⟨(e (i*3) _ k.c0),(e (i*3+1) _ k.c1),(e (i*3+2) _ k.c2)⟩
end Go.Proofs.YtofencldleijcaaGreat
namespace Go.Proofs.YtofencldleijcaaGreat
open Go.RowKit Go.Proofs.Tryz
structure Jz (w:World)(b o:Nat)(x:Wr):Prop where c0:w.cell? ⟨b,o,none⟩=some (.i x.op)c1:w.cell? ⟨b,o+1,none⟩=some (.s x.kind)c2:w.cell? ⟨b,o+2,none⟩=some (.s x.name)c3:w.cell? ⟨b,o+3,none⟩=some (.i x.seen)c4:w.cell? ⟨b,o+4,none⟩=some (.s x.text)c5:w.cell? ⟨b,o+5,none⟩=some (.s x.hold)
theorem Jz.below{w w':World}{B b o:Nat}{x:Wr}(h:Jz w b o x)(hb:Below B w w')(hB:b<B):Jz w' b o x:=have e:∀j,w'.cell? ⟨b,j,none⟩=w.cell? ⟨b,j,none⟩:=λj=>hb.cell (p:=⟨b,j,none⟩) hB
 ⟨(e _).trans h.c0,(e _).trans h.c1,(e _).trans h.c2,(e _).trans h.c3,(e _).trans h.c4,(e _).trans h.c5⟩
def GA (w:World)(lo hi:Nat)(ad:OA)(n:Nat)(x:Nat->Wr):Prop:=∀i,i<n->∃b off,ad=some ⟨b,off,none⟩/\lo<=b/\b<hi/\Jz w b (off+i*6) (x i)
theorem GA.below{w w':World}{B lo hi:Nat}{ad:OA}{n:Nat}{x:Nat->Wr}(h:GA w lo hi ad n x)(hb:Below B w w')(hB:hi<=B):GA w' lo hi ad n x:=λi hi'=>by obtain⟨b,off,e1,e2,e3,e4⟩:=h i hi';exact⟨b,off,e1,e2,e3,e4.below hb Zb⟩
theorem GA.mono{w:World}{lo lo' hi hi':Nat}{ad:OA}{n:Nat}{x:Nat->Wr}(h:GA w lo hi ad n x)(hl:lo'<=lo)(hh:hi<=hi'):GA w lo' hi' ad n x:=λi hi'=>by obtain⟨b,off,e1,e2,e3,e4⟩:=h i hi';exact⟨b,off,e1,Zb,Zb,e4⟩
structure QW (w:World)(g n m:Nat)(x:Nat->Wr):Prop where
 room:Fk w g (m*6)at_:∀i,i<n->Jz w g (i*6) (x i)
def n9 (c:Nat->Value)(i:Nat)(y:Wr):Prop:=c (i*6)=.i y.op/\c (i*6+1)=.s y.kind/\c (i*6+2)=.s y.name/\c (i*6+3)=.i y.seen/\c (i*6+4)=.s y.text/\c (i*6+5)=.s y.hold
structure Kv (w:World)(ad:OA)(g n:Nat)(x:Nat->Wr):Prop where addr:0<n->ad=some ⟨g,0,none⟩row:0<n->∃c,AM w g (n*6) c/\∀i,i<n->n9 c i (x i)
theorem Kv.fr{w w':World}{ad:OA}{g n:Nat}{x:Nat->Wr}{P:Nat->Prop}(h:Kv w ad g n x)(hf:AB P w w')(hp:0<n->¬P g):Kv w' ad g n x:=⟨h.addr,λh0=>by obtain⟨c,r,e⟩:=h.row h0;exact⟨c,r.fr hf (hp h0),e⟩⟩
theorem Kv.grow{w w':World}{ad:OA}{g n:Nat}{x:Nat->Wr}(h:Kv w ad g n x)(hf:Below w.1.size w w'):Kv w' ad g n x:=h.fr (Ap (P:=λ_=>False) hf) (λ_ h=>h)
theorem Kv.lt{w:World}{ad:OA}{g n:Nat}{x:Nat->Wr}(h:Kv w ad g n x)(h0:0<n):g<w.1.size:=by obtain⟨c,r,e⟩:=h.row h0;exact r.lt
theorem QW.at{w:World}{g n:Nat}{x:Nat->Wr}(h:QW w g n n x):Kv w (some ⟨g,0,none⟩) g n x:=by
 have e:∀j v,w.cell? ⟨g,j,none⟩=some v->(w.cell? ⟨g,j,none⟩).getD (.i 0)=v:=λj v h=>by rw[h];rfl
 refine⟨λ_=>rfl,λ_=>⟨λj=>(w.cell? ⟨g,j,none⟩).getD (.i 0),⟨h.room.lt,h.room.free,λj hj=>?_⟩,λi hi'=>?_⟩⟩;.obtain⟨u,hu⟩:=h.room.has j hj;rw[hu];rfl
 .have k:=h.at_ i hi';exact⟨(e (i*6) _ k.c0),(e (i*6+1) _ k.c1),(e (i*6+2) _ k.c2),(e (i*6+3) _ k.c3),(e (i*6+4) _ k.c4),(e (i*6+5) _ k.c5)⟩
end Go.Proofs.YtofencldleijcaaGreat
namespace Go.Proofs.YtofencldleijcaaGreat
open Go.RowKit Go.Proofs.Tryz
structure Bu where
 wn:Nat
 ws:Nat->Wt
 rn:Nat
 rs:Nat->Wr
abbrev vU (x:Bu)(a b:OA)(d e:Nat):Array Value:=#[.l a x.wn d,.l b x.rn e]
abbrev iZ (x:Bu)(a b:OA)(d e:Nat):List Value:=[.l a x.wn d,.l b x.rn e]
structure Ku (x:Bu):Prop where
 w:(x.wn:Int)<=1048576
 r:(x.rn:Int)<=1048576
 ws:∀i,i<x.wn->dN (x.ws i)rs:∀i,i<x.rn->Ml (x.rs i)
structure Fl (w:World)(lo hi:Nat)(x:Bu)(a1 a2:OA):Prop where
 wt:Mk w lo hi a1 x.wn x.ws
 wr:GA w lo hi a2 x.rn x.rs
theorem Fl.below{w w':World}{B lo hi:Nat}{x:Bu}{a1 a2:OA}(h:Fl w lo hi x a1 a2)(hb:Below B w w')(hB:hi<=B):Fl w' lo hi x a1 a2:=⟨h.wt.below hb hB,h.wr.below hb hB⟩
theorem Fl.mono{w:World}{lo lo' hi hi':Nat}{x:Bu}{a1 a2:OA}(h:Fl w lo hi x a1 a2)(hl:lo'<=lo)(hh:hi<=hi'):Fl w lo' hi' x a1 a2:=⟨h.wt.mono hl hh,h.wr.mono hl hh⟩
theorem Fl.grow{w w':World}{lo:Nat}{x:Bu}{a1 a2:OA}(h:Fl w lo w.1.size x a1 a2)(hb:Below w.1.size w w'):Fl w' lo w'.1.size x a1 a2:=(h.below hb Bg).mono Bg hb.size
structure UA (w:World)(x:Bu)(a1 a2:OA)(g1 g2:Nat):Prop where
 wt:Kt w a1 g1 x.wn x.ws
 wr:Kv w a2 g2 x.rn x.rs
 d:0<x.wn->0<x.rn->¬g1=g2
def nR (x:Bu)(g1 g2 k:Nat):Prop:=(0<x.wn/\k=g1)\/(0<x.rn/\k=g2)
theorem UA.fr{w w':World}{x:Bu}{a1 a2:OA}{g1 g2:Nat}{Q:Nat->Prop}(h:UA w x a1 a2 g1 g2)(hf:AB Q w w')(hq:∀k,nR x g1 g2 k->¬Q k):UA w' x a1 a2 g1 g2:=⟨h.wt.fr hf (λh0=>hq _ (AO ⟨h0,rfl⟩)),h.wr.fr hf (λh0=>hq _ (AD ⟨h0,rfl⟩)),h.d⟩
theorem UA.grow{w w':World}{x:Bu}{a1 a2:OA}{g1 g2:Nat}(h:UA w x a1 a2 g1 g2)(hf:Below w.1.size w w'):UA w' x a1 a2 g1 g2:=⟨h.wt.grow hf,h.wr.grow hf,h.d⟩
end Go.Proofs.YtofencldleijcaaGreat
namespace Go.Proofs.YtofencldleijcaaGreat
open Go.RowKit Go.Maps Go.Proofs.Tryz
structure VB (B:Bk):Prop where
 n0:0<=B.floor
 n1:B.floor<=B.now
 n2:B.now<=1000000
 on:B.on<=100
 asc:E3 B.on B.os=true
 fit:∀i,i<B.on->Bh (B.os i) B.now=true/\CJ (B.os i)=true
 vd:DV B.on B.os=true
 hn:B.hn<=200
 hnow:(B.hn:Int)=B.now-B.floor
 ver:∀i,i<B.hn->(B.hs i).ver=B.floor+1+i
 chg:∀i,i<B.hn->E5 (B.hs i) B.now=true
 liv:∀j,j<B.hn->Gj B.floor B.hs j=true
 agO:∀i,i<B.on->agO B.floor B.os B.hn B.hs i=true
 agH:∀i,i<B.hn->agH B.on B.os B.hn B.hs i=true
 ti:Gg B.tn B.ts B.now=true
theorem lE{B:Bk}(h:Be (Hw B) 7=true):VB B:=by have c:=AC.1 h;have c0:=K8 (c 0 Za);have c1:=c 1 Za;have c2:=c 2 Za;have c3:=c 3 Za;have c4:=c 4 Za;have c5:=c 5 Za;have c6:=c 6 Za;simp only[Hw,DK,EQ,MB,Hs,Ak,decide_eq_true_eq,AC]at c1 c2 c3 c4 c5 c6;exact⟨c0.1,c0.2.1,c0.2.2,c1.1,c1.2.1,c1.2.2,c2,c3.1,c3.2.1,λi hi=>(c3.2.2 i hi).1,λi hi=>(c3.2.2 i hi).2,c4,c5.1,c5.2,c6⟩
theorem I6{B:Bk}(h:VB B):Be (Hw B) 7=true:=by
 refine AC.2 λi hi=>?_;have hn0:=h.n0;have hn1:=h.n1;have hn2:=h.n2;rcases(show i=0\/i=1\/i=2\/i=3\/i=4\/i=5\/i=6 by omega)with rfl|rfl|rfl|rfl|rfl|rfl|rfl;.show I5 B.now B.floor=true;unfold I5;rw[Fa ⟨Zb,Zb⟩,Fa ⟨Zb,Zb⟩];rfl
 .simp only[Hw,DK,Hs,Ak,decide_eq_true_eq,AC];exact⟨h.on,h.asc,h.fit⟩
 .exact h.vd
 .simp only[Hw,EQ,Ak,decide_eq_true_eq,AC];exact⟨h.hn,h.hnow,λi hi=>⟨h.ver i hi,h.chg i hi⟩⟩
 .exact AC.2 h.liv
 .simp only[Hw,MB,Ak,AC];exact⟨h.agO,h.agH⟩
 .exact h.ti
theorem LC (h:Nat->Ch)(a b:ByteArray):∀n,CM (λi=>h (i+1)) a b n=match CM h a b (n+1)with|some (j+1)=>some j|_=>none
 |0=>by
  show none=_;unfold CM;split
  .rename_i e;split at e;.cases e
   .cases e
  .rfl
 |n+1=>by
  have ih:=LC h a b n;show(if(h (n+1)).ob.kind=a/\(h (n+1)).ob.name=b then some n else CM (λi=>h (i+1)) a b n)=_;rw[show CM h a b (n+1+1)=(if(h (n+1)).ob.kind=a/\(h (n+1)).ob.name=b then some (n+1)else CM h a b (n+1))from rfl];by_cases e:(h (n+1)).ob.kind=a/\(h (n+1)).ob.name=b;.rw[if_pos e,if_pos e]
  .rw[if_neg e,if_neg e];exact ih
def D1 (B:Bk):Bk:={B with floor:=(B.hs 0).ver,hn:=B.hn-1,hs:=λi=>B.hs (i+1)}
theorem Jr{x:Ob}{now:Int}(h:Bh x now=true):1<=x.born/\x.born<=x.ver/\1<=x.ver/\x.ver<=now:=by unfold Bh at h;simp only[Ak]at h;have a:=IT h.2.2.1;have b:=IT h.2.2.2.1;exact⟨b.1,b.2,a.1,a.2⟩
theorem Vh{c:Ch}{now:Int}(h:E5 c now=true):c.ob.ver=c.ver/\Bh c.ob now=true:=by unfold E5 at h;simp only[Ak,beq_iff_eq]at h;exact⟨h.1,h.2.1⟩
theorem Rz{x z:Ob}(h:BT x z=true):x.ver=z.ver:=by unfold BT at h;simp only[Ak,decide_eq_true_eq]at h;exact h.2.2.1
theorem PO{B:Bk}(h:VB B)(h0:0<B.hn):VB (D1 B):=by
 have hv0:(B.hs 0).ver=B.floor+1:=by have:=h.ver 0 h0;omega
 have hnow:=h.hnow;have hl:∀a b m,CM (D1 B).hs a b m=match CM B.hs a b (m+1)with|some (j+1)=>some j|_=>none:=λa b m=>LC B.hs a b m;obtain⟨q1,q2⟩:=Vh (h.chg 0 h0);have q3:=Jr q2;refine⟨?_,?_,h.n2,h.on,h.asc,h.fit,h.vd,?_,?_,λi hi=>?_,λi hi=>?_,λj hj=>?_,λi hi=>?_,λi hi=>?_,h.ti⟩;.show 0<=(B.hs 0).ver;have:=h.n0;omega
 .show(B.hs 0).ver<=B.now;omega
 .show B.hn-1<=200;have:=h.hn;omega
 .show((B.hn-1:Nat):Int)=B.now-(B.hs 0).ver;omega
 .show(B.hs (i+1)).ver=(B.hs 0).ver+1+i;have hi:i<B.hn-1:=hi;have:=h.ver (i+1) Zb;omega
 .have hi:i<B.hn-1:=hi;exact h.chg (i+1) Zb
 .have hj:j<B.hn-1:=hj;have o:=h.liv (j+1) Zb;unfold Gj at o⊢;show(match CM (D1 B).hs (B.hs (j+1)).ob.kind (B.hs (j+1)).ob.name j with|none=>H6 (B.hs (j+1)) (B.hs 0).ver|some i=>Gf (B.hs (i+1)) (B.hs (j+1)))=true;rw[hl];cases e:CM B.hs (B.hs (j+1)).ob.kind (B.hs (j+1)).ob.name (j+1)with
  |none=>
   rw[e]at o;show H6 _ _=true;unfold H6 at o⊢;simp only[Hi,decide_eq_true_eq]at o⊢;rcases o with o|o;.exact AO o
   .exact AD Zb
  |some k=>rw[e]at o;cases k with
   |zero=>show H6 _ _=true;have o:Gf (B.hs 0) (B.hs (j+1))=true:=o;unfold H6;unfold Gf at o;cases hc:FK (B.hs (j+1))with
    |true=>rfl
    |false=>rw[hc]at o;cases hg:(B.hs 0).gone with
     |true=>rw[hg]at o;simp at o
     |false=>rw[hg]at o;simp only[Bool.or_self,Es,if_false,beq_iff_eq]at o;simp only[Bool.false_or,decide_eq_true_eq];omega
   |succ k=>exact o
 .have o:=h.agO i hi;unfold Go.Proofs.YtofencldleijcaaGreat.agO at o⊢;show(match CM (D1 B).hs (B.os i).kind (B.os i).name (B.hn-1)with|none=>decide ((B.os i).ver<=(B.hs 0).ver)|some j=>!(B.hs (j+1)).gone&&BT (B.os i) (B.hs (j+1)).ob)=true;rw[hl,show B.hn-1+1=B.hn by omega];cases e:CM B.hs (B.os i).kind (B.os i).name B.hn with
  |none=>rw[e]at o;have o:=of_decide_eq_true o;exact decide_eq_true Zb
  |some k=>rw[e]at o;cases k with
   |zero=>have o:(!(B.hs 0).gone&&BT (B.os i) (B.hs 0).ob)=true:=o;simp only[Ak]at o;have:=Rz o.2;exact decide_eq_true Zb
   |succ k=>exact o
 .have hi:i<B.hn-1:=hi;have o:=h.agH (i+1) Zb;unfold Go.Proofs.YtofencldleijcaaGreat.agH at o⊢;show(!decide (CM (D1 B).hs (B.hs (i+1)).ob.kind (B.hs (i+1)).ob.name (B.hn-1)=some i)||((B.hs (i+1)).gone||(Jb B.os (B.hs (i+1)).ob.kind (B.hs (i+1)).ob.name B.on).isSome))=true;rw[hl,show B.hn-1+1=B.hn by omega];cases e:CM B.hs (B.hs (i+1)).ob.kind (B.hs (i+1)).ob.name B.hn with
  |none=>rfl
  |some k=>rw[e]at o;cases k with
   |zero=>rfl
   |succ k=>simpa using o
end Go.Proofs.YtofencldleijcaaGreat
namespace Go.Proofs.YtofencldleijcaaGreat
open Go.RowKit Go.Maps Go.Proofs.Tryz
def E6 (B:Bk)(c:Ch)(m:Nat)(y:Nat->Ob):Bk:={B with now:=B.now+1,on:=m,os:=y,hn:=B.hn+1,hs:=λi=>if i<B.hn then B.hs i else c}
def MA (x z:Ob):Prop:=x.kind=z.kind/\x.name=z.name
theorem NY{x:Ob}{n m:Int}(h:Bh x n=true)(hn:n<=m):Bh x m=true:=by unfold Bh at h⊢;simp only[Ak]at h⊢;have:=IT h.2.2.1;exact⟨h.1,h.2.1,Fa ⟨Zb,Zb⟩,h.2.2.2⟩
theorem Y0{c:Ch}{n m:Int}(h:E5 c n=true)(hn:n<=m):E5 c m=true:=by unfold E5 at h⊢;simp only[Ak]at h⊢;exact⟨h.1,NY h.2.1 hn,h.2.2⟩
theorem Xw{k:Nat}{x:Nat->Ti}{n m:Int}(h:Gg k x n=true)(hn:n<=m):Gg k x m=true:=by unfold Gg at h⊢;simp only[Ak,AC]at h⊢;refine⟨h.1,h.2.1,λi hi=>?_⟩;have:=h.2.2 i hi;unfold JK at this⊢;simp only[Ak]at this⊢;have q:=IT this.2.2.2.2;exact⟨this.1,this.2.1,this.2.2.1,this.2.2.2.1,Fa ⟨q.1,Zb⟩⟩
theorem N4{h h':Nat->Ch}{a b:ByteArray}:∀{n:Nat},(∀i,i<n->h' i=h i)->CM h' a b n=CM h a b n
 |0,_=>rfl
 |n+1,e=>by unfold CM;rw[e n Zb,N4 λi hi=>e i Zb]
theorem Jp{x:Nat->Ob}{a b:ByteArray}:∀{n i:Nat},i<n->(x i).kind=a/\(x i).name=b->(Jb x a b n).isSome=true
 |0,_,h,_=>absurd h (Ai _)
 |n+1,i,h,e=>by unfold Jb;cases q:Jb x a b n with
  |some k=>rfl
  |none=>
   by_cases hi:i=n;.subst hi;rw[if_pos e];rfl
   .have:=Jp (n:=n) Zb e;rw[q]at this;cases this
structure Wn (B:Bk)(c:Ch)(m:Nat)(y:Nat->Ob):Prop where
 hn:B.hn<200
 now:B.now<1000000
 le:m<=100
 asc:E3 m y=true
 vd:DV m y=true
 from_:∀i,i<m->(y i=c.ob/\c.gone=false)\/∃j,j<B.on/\y i=B.os j/\¬MA (B.os j) c.ob
 keep:∀j,j<B.on->¬MA (B.os j) c.ob->∃i,i<m/\y i=B.os j
 new:c.gone=false->∃i,i<m/\y i=c.ob
 ver:c.ver=B.now+1
 over:c.ob.ver=B.now+1
 parts:Bh c.ob (B.now+1)=true
 st:(if c.gone then JZ c.ob else CJ c.ob)=true
 fol:(match CM B.hs c.ob.kind c.ob.name B.hn with|none=>H6 c B.floor|some i=>Gf (B.hs i) c)=true
theorem UE (x:Ob):BT x x=true:=by unfold BT QO;simp[AC]
theorem PT{B:Bk}{c:Ch}{m:Nat}{y:Nat->Ob}(h:VB B)(a:Wn B c m y):VB (E6 B c m y):=by
 have hl:∀p q k,k<=B.hn->CM (E6 B c m y).hs p q k=CM B.hs p q k:=λp q k hk=>N4 λi hi=>if_pos Zb;have hl1:∀p q,CM (E6 B c m y).hs p q (B.hn+1)=if c.ob.kind=p/\c.ob.name=q then some B.hn else CM B.hs p q B.hn:=λp q=>by show(if((E6 B c m y).hs B.hn).ob.kind=p/\((E6 B c m y).hs B.hn).ob.name=q then some B.hn else CM (E6 B c m y).hs p q B.hn)=_;rw[hl _ _ _ Bg,show(E6 B c m y).hs B.hn=c from if_neg (AJ _)]
 have hh:∀i,i<B.hn->(E6 B c m y).hs i=B.hs i:=λi hi=>if_pos hi;have hc:(E6 B c m y).hs B.hn=c:=if_neg (AJ _);have hnow:=h.hnow;have hnw:=a.now;refine⟨h.n0,?_,?_,a.le,a.asc,λi hi=>?_,a.vd,?_,?_,λi hi=>?_,λi hi=>?_,λj hj=>?_,λi hi=>?_,λi hi=>?_,Xw h.ti (by show B.now<=B.now+1;omega)⟩;.show B.floor<=B.now+1;have:=h.n1;omega
 .show B.now+1<=1000000;omega
 .show Bh (y i) (B.now+1)=true/\CJ (y i)=true;rcases a.from_ i hi with⟨e,g⟩|⟨j,hj,e,_⟩;.rw[e];have s:=a.st;rw[g]at s;exact⟨a.parts,s⟩
  .rw[e];exact⟨NY (h.fit j hj).1 Zb,(h.fit j hj).2⟩
 .show B.hn+1<=200;have:=a.hn;omega
 .show((B.hn+1:Nat):Int)=B.now+1-B.floor;omega
 .by_cases e:i<B.hn;.rw[hh i e];exact h.ver i e
  .have hi:i<B.hn+1:=hi;obtain rfl:i=B.hn:=Zb;rw[hc,a.ver];show B.now+1=B.floor+1+(B.hn:Int);omega
 .by_cases e:i<B.hn;.rw[hh i e];exact Y0 (h.chg i e) (by show B.now<=B.now+1;omega)
  .have hi:i<B.hn+1:=hi;obtain rfl:i=B.hn:=Zb;rw[hc];unfold E5;simp only[Ak,beq_iff_eq];exact⟨by rw[a.over,a.ver],a.parts,a.st⟩
 .by_cases e:j<B.hn;.have o:=h.liv j e;unfold Gj at o⊢;rw[hh j e,hl _ _ _ Zb];cases q:CM B.hs (B.hs j).ob.kind (B.hs j).ob.name j with
   |none=>rw[q]at o;exact o
   |some k=>rw[q]at o;show Gf ((E6 B c m y).hs k) (B.hs j)=true;rw[hh k (by have:=(DZ q).1;omega)];exact o
  .have hj:j<B.hn+1:=hj;obtain rfl:j=B.hn:=Zb;have o:=a.fol;unfold Gj;rw[hc,hl _ _ _ Bg];cases q:CM B.hs c.ob.kind c.ob.name B.hn with
   |none=>rw[q]at o;exact o
   |some k=>rw[q]at o;show Gf ((E6 B c m y).hs k) c=true;rw[hh k (DZ q).1];exact o
 .show agO B.floor y (B.hn+1) (E6 B c m y).hs i=true;unfold Go.Proofs.YtofencldleijcaaGreat.agO;rw[hl1];rcases a.from_ i hi with⟨e,g⟩|⟨j,hj,e,hk⟩;.rw[e,if_pos ⟨rfl,rfl⟩];show(!((E6 B c m y).hs B.hn).gone&&BT c.ob ((E6 B c m y).hs B.hn).ob)=true;rw[hc,g,UE];rfl
  .rw[e,if_neg (λq=>hk ⟨q.1.symm,q.2.symm⟩)];have o:=h.agO j hj;unfold Go.Proofs.YtofencldleijcaaGreat.agO at o;cases q:CM B.hs (B.os j).kind (B.os j).name B.hn with
   |none=>rw[q]at o;exact o
   |some k=>rw[q]at o;show(!((E6 B c m y).hs k).gone&&BT (B.os j) ((E6 B c m y).hs k).ob)=true;rw[hh k (DZ q).1];exact o
 .show agH m y (B.hn+1) (E6 B c m y).hs i=true;unfold Go.Proofs.YtofencldleijcaaGreat.agH;rw[hl1];by_cases e:i<B.hn
  .rw[hh i e];by_cases k:c.ob.kind=(B.hs i).ob.kind/\c.ob.name=(B.hs i).ob.name
   .rw[if_pos k];have:¬(some B.hn=some i):=Zd;simp[this]
   .rw[if_neg k];have o:=h.agH i e;unfold Go.Proofs.YtofencldleijcaaGreat.agH at o;simp only[Hi]at o⊢;rcases o with o|o|o;.exact AO o
    .exact AD (AO o)
    .refine AD (AD ?_);obtain⟨j,hj⟩:=Hb.1 o;obtain⟨j1,j2,j3⟩:=Ju hj;obtain⟨l,l1,l2⟩:=a.keep j j1 (λq=>k ⟨by rw[<-q.1];exact j2,by rw[<-q.2];exact j3⟩);exact Jp l1 (by rw[l2];exact⟨j2,j3⟩)
  .have hi:i<B.hn+1:=hi;obtain rfl:i=B.hn:=Zb;rw[hc,if_pos ⟨rfl,rfl⟩];cases g:c.gone with
   |true=>simp
   |false=>obtain⟨l,l1,l2⟩:=a.new g;have:=Jp (x:=y) (a:=c.ob.kind) (b:=c.ob.name) l1 (by rw[l2];exact⟨rfl,rfl⟩);simp[this]
end Go.Proofs.YtofencldleijcaaGreat
namespace Go.Proofs.YtofencldleijcaaGreat
open Go.RowKit Go.Maps Go.Proofs.Tryz
theorem Yc (B:Bk)(v:Wr)(ve:Int):(IP B v ve).ver=ve:=by
 unfold IP;split;.rfl
 .split;.rfl
  .split;.rfl
   .split<;>rfl
theorem KC{B:Bk}{v:Wr}(h:Dp B v=0):¬(B8 B.os v.kind v.name B.on=decide (v.op=1)):=by intro e;unfold Dp at h;rw[if_pos e]at h;cases h
theorem WL{v:Wr}(h:EU v=true):By v.kind=true/\By v.name=true/\v.text.size<=300/\(LO v.hold=true\/By v.hold=true)/\Gi v=true:=by unfold EU ED at h;simp only[Ak,Hi,decide_eq_true_eq]at h;exact⟨h.1.1,h.1.2.1,h.1.2.2.2.1,h.1.2.2.2.2,h.2⟩
theorem XL{v:Wr}(h:Gi v=true)(ho:v.op=4\/v.op=5):LO v.hold=false:=by unfold Gi at h;rcases ho with ho|ho<;>(rw[ho]at h;simp at h;simpa using h.2)
theorem Sx{n:Nat}{s:Nat->ByteArray}(h:IC n s)(hn:∀i,i<n->By (s i)=true):OB n s=true:=by unfold OB;refine AC.2 λi hi=>?_;rw[hn i hi,Bool.true_and];cases i with
 |zero=>rfl
 |succ k=>simpa using h k (k+1) Zb hi
theorem LV{n:Nat}{s:Nat->ByteArray}(h:OB n s=true):∀i,i<n->By (s i)=true:=λi hi=>by have:=AC.1 h i hi;simp only[Ak]at this;exact this.1
theorem YD{n:Nat}{x:Nat->Ob}(h:QQ n x):E3 n x=true:=by unfold E3;refine AC.2 λi hi=>?_;cases i with
 |zero=>rfl
 |succ k=>simpa using h k (k+1) Zb hi
theorem aQ (x:Ob):CN x x=false:=by have h:=(I9 x x).2 ⟨rfl,rfl⟩;cases e:CN x x with
 |false=>rfl
 |true=>have:=(Hf x x).2 e;omega
theorem Lg (x z:Ob):D8 x z=0↔MA x z:=by
 unfold MA;have h:=LM x z;constructor;.intro e;rw[e]at h;exact of_decide_eq_true h.symm
 .intro e;rw[decide_eq_true e]at h;exact eq_of_beq h
theorem OZ (o:Ob):∀(l:List Ob)(z:Ob),z∈Ht o l->z=o\/(z∈l/\¬D8 z o=0)
 |[],z,h=>AO (by simpa[Ht]using h)
 |y::r,z,h=>by
  unfold Ht at h;by_cases hb:CN y o=true
  .rw[if_pos hb]at h;rcases CD.1 h with e|e
   .subst e;exact AD ⟨Cs,by have:=(Hf z o).2 hb;omega⟩
   .rcases OZ o r z e with q|q;.exact AO q
    .exact AD ⟨CZ _ q.1,q.2⟩
  .rw[if_neg hb]at h;rcases CD.1 h with e|e;.exact AO e
   .have:=BL.1 e;exact AD ⟨this.1,of_decide_eq_true this.2⟩
theorem Qu (o:Ob):∀l:List Ob,o∈Ht o l
 |[]=>by simp[Ht]
 |y::r=>by
  unfold Ht;split;.exact CZ _ (Qu o r)
  .exact Cs
theorem OO (o:Ob):∀(l:List Ob)(z:Ob),z∈l->¬D8 z o=0->z∈Ht o l
 |y::r,z,h,hk=>by
  unfold Ht;split
  .rcases CD.1 h with e|e;.subst e;exact Cs
   .exact CZ _ (OO o r z e hk)
  .exact CZ _ (BL.2 ⟨h,decide_eq_true hk⟩)
theorem O4{o:Ob}{g:Bool}{l:List Ob}{z:Ob}(h:z∈My o g l):(z=o/\g=false)\/(z∈l/\¬D8 z o=0):=by unfold My at h;cases g with
 |true=>have:=BL.1 h;exact AD ⟨this.1,of_decide_eq_true this.2⟩
 |false=>
  rcases OZ o l z h with q|q;.exact AO ⟨q,rfl⟩
  .exact AD q
theorem OP{o:Ob}{g:Bool}{l:List Ob}{z:Ob}(h:z∈l)(hk:¬D8 z o=0):z∈My o g l:=by unfold My;cases g with
 |true=>exact BL.2 ⟨h,decide_eq_true hk⟩
 |false=>exact OO o l z h hk
theorem IH{m:Nat}{y:Nat->Ob}{z:Ob}:z∈Eo m y↔∃i,i<m/\y i=z:=by unfold Eo;simp[CI]
end Go.Proofs.YtofencldleijcaaGreat
