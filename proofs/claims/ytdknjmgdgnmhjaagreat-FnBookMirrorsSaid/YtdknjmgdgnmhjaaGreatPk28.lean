import Derived.Test.YtdknjmgdgnmhjaaGreatPk24
import Derived.Test.YtdknjmgdgnmhjaaGreatPk27
set_option maxRecDepth 100000
namespace Go.Proofs.YtdknjmgdgnmhjaaGreat
open Go.RowKit Go.Maps Go.Proofs.Tryz
theorem QE{s:ByteArray}(h:Cc s=true):(s.size:Int)<=140737488355328:=by unfold Cc at h;rw[As]at h;have:=Lo h.1;omega
theorem Ts{x:Ob}{now:Int}(h:Bv x now=true)(hn:now<=1000000):Cu x:=by simp only[Bv,D7,As,decide_eq_true_eq]at h;obtain⟨h1,h2,h3,h4,h5,h6,h7⟩:=h;have v:=Lo h3;exact⟨QE h1,QE h2,Za,Za,λi hi=>QE (OR h7 i hi),QS Za Za⟩
theorem aH{B:Bk}(h:VB B):BS B:=by
 have ht:=h.ti;simp only[Iz,As,decide_eq_true_eq,AS]at ht;refine⟨by have:=h.on;omega,by have:=h.hn;omega,Za,λi hi=>Ts (h.fit i hi).1 h.n2,λi hi=>?_,λi hi=>?_⟩;.have:=h.chg i hi;simp only[GS,As]at this;exact Ts this.2.1 h.n2
 .have:=ht.2.2 i hi;simp only[Mc,As,decide_eq_true_eq]at this;exact⟨QE this.1,Za⟩
theorem iS{x:Bk}{j:Nat}(h:VB (Jm x j))(hj:j<x.hn):Jm x (j+1)=JA (Jm x j):=by
 have h0:0<(Jm x j).hn:=by show 0<x.hn-j;omega
 have hv:=h.t 0 h0;have e1:(Jm x (j+1)).f=(JA (Jm x j)).f:=by show x.f+((j+1:Nat):Int)=((Jm x j).hs 0).t;rw[hv];show _=x.f+(j:Int)+1+((0:Nat):Int);omega
 have e2:(Jm x (j+1)).hn=(JA (Jm x j)).hn:=by show x.hn-(j+1)=x.hn-j-1;omega
 have e3:(Jm x (j+1)).hs=(JA (Jm x j)).hs:=by funext i;show x.hs (i+(j+1))=x.hs (i+1+j);congr 1;omega
 show(⟨x.v,(Jm x (j+1)).f,x.on,x.os,(Jm x (j+1)).hn,(Jm x (j+1)).hs,x.tn,x.ts⟩:Bk)=⟨x.v,(JA (Jm x j)).f,x.on,x.os,(JA (Jm x j)).hn,(JA (Jm x j)).hs,x.tn,x.ts⟩;rw[e1,e2,e3]
theorem dA{x:Bk}(h:VB x):∀j,j<=x.hn->VB (Jm x j)
 |0,_=>by
  have e:Jm x 0=x:=by unfold Jm;simp
  rw[e];exact h
 |j+1,hj=>by have ih:=dA h j Za;rw[iS ih Za];exact fA ih (by show 0<x.hn-j;omega)
theorem od{x:Bk}(h:VB x)(fl:Int):VB (dg x fl):=by unfold dg;rw[if_pos (PD h)];refine dA h _ ?_;unfold ox;have h1:=h.hnow;omega
def BvP (w:World)(e:Ending)(w':World):Prop:=Below w.1.size w w'/\∃(Y:Bk)(b1 b2 b3:OA)(e1 e2 e3:Nat),e=.returned (.agg (vB Y b1 b2 b3 e1 e2 e3))/\Ip w' Y b1 b2 b3 e3
theorem eB (B:Bk)(a1 a2 a3:OA)(c1 c2 c3:Nat)(fl:Int)(w:World)(hb:Ip w B a1 a2 a3 c3):Calls prog 32 #[.agg (vB B a1 a2 a3 c1 c2 c3),.i fl] w λe w'=>BvP w e w':=by have ht:B.tn<=50:=Yh (PD hb.v);refine(i9 B a1 a2 a3 c1 c2 c3 fl _ rfl w 0 w.1.size A9 (by have:=hb.v.on;omega) (by have:=hb.v.hn;omega) Za hb.f hb.i).mono ?_;rintro e w' ⟨b1,b2,b3,d1,d2,d3,rfl,Cs,hc,hB⟩;have hv:=od hb.v fl;exact⟨hB,_,b1,b2,b3,d1,d2,d3,rfl,hv,aH hv,Cs.lo0,hc⟩
theorem WX (B:Bk)(a1 a2 a3:OA)(c1 c2 c3:Nat)(w:World)(hb:Ip w B a1 a2 a3 c3):Calls prog 33 #[.agg (vB B a1 a2 a3 c1 c2 c3)] w λe w'=>Below w.1.size w w'/\∃(b1 b2 b3:OA)(e1 e2 e3:Nat),e=.returned (.agg (vB B b1 b2 b3 e1 e2 e3))/\BL w' w.1.size w'.1.size B b1 b2 b3/\Kw w' B.tn b3 e3:=by have ht:B.tn<=50:=Yh (PD hb.v);refine(QU B a1 a2 a3 c1 c2 c3 w 0 w.1.size A9 (by have:=hb.v.on;omega) (by have:=hb.v.hn;omega) Za hb.f hb.i).mono ?_;rintro e w' ⟨b1,b2,b3,d1,d2,d3,rfl,Cs,⟨_,hc⟩,hB⟩;exact⟨hB,b1,b2,b3,d1,d2,d3,rfl,Cs,hc⟩
def AsP (w:World)(e:Ending)(w':World):Prop:=Below w.1.size w w'/\∃(Y:Bk)(b1 b2 b3:OA)(e1 e2 e3:Nat)(u:Value),e=.returned (.tuple #[.agg (vB Y b1 b2 b3 e1 e2 e3),u])/\Ip w' Y b1 b2 b3 e3
theorem rx (B:Bk)(c:Ca)(a1 a2 a3:OA)(c1 c2 c3:Nat)(u1 u2:OA)(d1 d2:Nat)(w:World)(hb:Ip w B a1 a2 a3 c3)(hn:(c.c.size:Int)<=140737488355328)(hu:aA c.bu)(PU:IX w 0 w.1.size c.bu u1 u2):Calls prog 55 #[.agg (vB B a1 a2 a3 c1 c2 c3),.agg (vC c u1 u2 d1 d2)] w λe w'=>AsP w e w':=by refine(jB B c a1 a2 a3 c1 c2 c3 u1 u2 d1 d2 w hb.f ⟨hn,hu.fit,hu.int⟩ hb.i PU (PD hb.v) hb.c).mono ?_;rintro e w' ⟨hB,b1,b2,b3,e1,e2,e3,rfl,Cs,hc⟩;have hv:=Aa6 (c:=c) hb.f hb.v hu.fit;exact⟨hB,_,b1,b2,b3,e1,e2,e3,_,rfl,hv,aH hv,Cs,hc⟩
end Go.Proofs.YtdknjmgdgnmhjaaGreat
