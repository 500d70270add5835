import Derived.Test.YtnnjcenacidceaaPk33
import Derived.Test.YtnnjcenacidceaaPk38
import Derived.Test.YtnnjcenacidceaaPk22
set_option maxRecDepth 100000
namespace Go.Proofs.Ytnnjcenacidceaa
open Go.RowKit Go.Maps Go.Proofs.Try
theorem Qy{s:ByteArray}(h:Bv s=true):(s.size:Int)<=140737488355328:=by unfold Bv at h;rw[Al]at h;have:=MJ h.1;omega
theorem SF{x:Ob}{now:Int}(h:Bg x now=true)(hn:now<=1000000):Ef x:=by simp only[Bg,EB,Al,decide_eq_true_eq]at h;obtain⟨h1,h2,h3,h4,h5,h6,h7⟩:=h;have v:=MJ h3;exact⟨Qy h1,Qy h2,Za,Za,λi hi=>Qy (Pd h7 i hi),Re Za Za⟩
theorem VZ{B:Bk}(h:VB B):BL B:=by
 have ht:=h.ti;simp only[Ly,Al,decide_eq_true_eq,AP]at ht;refine⟨by have:=h.on;omega,by have:=h.hn;omega,Za,λi hi=>SF (h.fit i hi).1 h.n2,λi hi=>?_,λi hi=>?_⟩;.have:=h.chg i hi;simp only[K9,Al]at this;exact SF this.2.1 h.n2
 .have:=ht.2.2 i hi;simp only[Nu,Al,decide_eq_true_eq]at this;exact⟨Qy this.1,Za⟩
theorem Yg{x:Bk}{j:Nat}(h:VB (L5 x j))(hj:j<x.hn):L5 x (j+1)=Mc (L5 x j):=by
 have h0:0<(L5 x j).hn:=by show 0<x.hn-j;omega
 have hv:=h.ver 0 h0;have e1:(L5 x (j+1)).floor=(Mc (L5 x j)).floor:=by show x.floor+((j+1:Nat):Int)=((L5 x j).hs 0).ver;rw[hv];show _=x.floor+(j:Int)+1+((0:Nat):Int);omega
 have e2:(L5 x (j+1)).hn=(Mc (L5 x j)).hn:=by show x.hn-(j+1)=x.hn-j-1;omega
 have e3:(L5 x (j+1)).hs=(Mc (L5 x j)).hs:=by funext i;show x.hs (i+(j+1))=x.hs (i+1+j);congr 1;omega
 show(⟨x.now,(L5 x (j+1)).floor,x.on,x.os,(L5 x (j+1)).hn,(L5 x (j+1)).hs,x.tn,x.ts⟩:Bk)=⟨x.now,(Mc (L5 x j)).floor,x.on,x.os,(Mc (L5 x j)).hn,(Mc (L5 x j)).hs,x.tn,x.ts⟩;rw[e1,e2,e3]
theorem XD{x:Bk}(h:VB x):∀j,j<=x.hn->VB (L5 x j)
 |0,_=>by
  have e:L5 x 0=x:=by unfold L5;simp
  rw[e];exact h
 |j+1,hj=>by have ih:=XD h j Za;rw[Yg ih Za];exact XJ ih (by show 0<x.hn-j;omega)
theorem lE{x:Bk}(h:VB x)(fl:Int):VB (fR x fl):=by unfold fR;rw[if_pos (PX h)];refine XD h _ ?_;unfold mJ;have h1:=h.hnow;omega
def cj (w:World)(e:Ending)(w':World):Prop:=Below w.1.size w w'/\∃(Y:Bk)(b1 b2 b3:OA)(e1 e2 e3:Nat),e=.returned (.agg (vB Y b1 b2 b3 e1 e2 e3))/\L4 w' Y b1 b2 b3 e3
theorem lB (B:Bk)(a1 a2 a3:OA)(c1 c2 c3:Nat)(fl:Int)(w:World)(hb:L4 w B a1 a2 a3 c3):Calls prog 68 #[.agg (vB B a1 a2 a3 c1 c2 c3),.i fl] w λe w'=>cj w e w':=by have ht:B.tn<=50:=Vg (PX hb.v);refine(XU B a1 a2 a3 c1 c2 c3 fl _ rfl w 0 w.1.size uK (by have:=hb.v.on;omega) (by have:=hb.v.hn;omega) Za hb.f hb.i).mono ?_;rintro e w' ⟨b1,b2,b3,d1,d2,d3,rfl,hin,hc,hB⟩;have hv:=lE hb.v fl;exact⟨hB,_,b1,b2,b3,d1,d2,d3,rfl,hv,VZ hv,hin.lo0,hc⟩
theorem dF (B:Bk)(a1 a2 a3:OA)(c1 c2 c3:Nat)(w:World)(hb:L4 w B a1 a2 a3 c3):Calls prog 73 #[.agg (vB B a1 a2 a3 c1 c2 c3)] w λe w'=>Below w.1.size w w'/\∃(b1 b2 b3:OA)(e1 e2 e3:Nat),e=.returned (.agg (vB B b1 b2 b3 e1 e2 e3))/\BF w' w.1.size w'.1.size B b1 b2 b3/\MW w' B.tn b3 e3:=by have ht:B.tn<=50:=Vg (PX hb.v);refine(RE B a1 a2 a3 c1 c2 c3 w 0 w.1.size uK (by have:=hb.v.on;omega) (by have:=hb.v.hn;omega) Za hb.f hb.i).mono ?_;rintro e w' ⟨b1,b2,b3,d1,d2,d3,rfl,hin,⟨_,hc⟩,hB⟩;exact⟨hB,b1,b2,b3,d1,d2,d3,rfl,hin,hc⟩
def ar (w:World)(e:Ending)(w':World):Prop:=Below w.1.size w w'/\∃(Y:Bk)(b1 b2 b3:OA)(e1 e2 e3:Nat)(u:Value),e=.returned (.tuple #[.agg (vB Y b1 b2 b3 e1 e2 e3),u])/\L4 w' Y b1 b2 b3 e3
theorem mF (B:Bk)(c:Ca)(a1 a2 a3:OA)(c1 c2 c3:Nat)(u1 u2:OA)(d1 d2:Nat)(w:World)(hb:L4 w B a1 a2 a3 c3)(hn:(c.client.size:Int)<=140737488355328)(hu:UG c.bu)(hbu:Lt w 0 w.1.size c.bu u1 u2):Calls prog 69 #[.agg (vB B a1 a2 a3 c1 c2 c3),.agg (vC c u1 u2 d1 d2)] w λe w'=>ar w e w':=by refine(Yb B c a1 a2 a3 c1 c2 c3 u1 u2 d1 d2 w hb.f ⟨hn,hu.fit,hu.int⟩ hb.i hbu (PX hb.v) hb.c).mono ?_;rintro e w' ⟨hB,b1,b2,b3,e1,e2,e3,rfl,hin,hc⟩;have hv:=pT (c:=c) hb.f hb.v hu.fit;exact⟨hB,_,b1,b2,b3,e1,e2,e3,_,rfl,hv,VZ hv,hin,hc⟩
end Go.Proofs.Ytnnjcenacidceaa
