import Derived.Test.YtnnjcenacidceaaGreatPk33
import Derived.Test.YtnnjcenacidceaaGreatPk38
import Derived.Test.YtnnjcenacidceaaGreatPk22
set_option maxRecDepth 100000
namespace Go.Proofs.YtnnjcenacidceaaGreat
open Go.RowKit Go.Maps Go.Proofs.Tryz
theorem Q3{s:ByteArray}(h:BB s=true):(s.size:Int)<=140737488355328:=by unfold BB at h;rw[Am]at h;have:=M9 h.1;omega
theorem S8{x:Ob}{now:Int}(h:Bq x now=true)(hn:now<=1000000):Ec x:=by simp only[Bq,Ew,Am,decide_eq_true_eq]at h;obtain⟨h1,h2,h3,h4,h5,h6,h7⟩:=h;have v:=M9 h3;exact⟨Q3 h1,Q3 h2,Za,Za,λi hi=>Q3 (P9 h7 i hi),Sx Za Za⟩
theorem Uh{B:Bk}(h:VB B):BQ B:=by
 have ht:=h.ti;simp only[LS,Am,decide_eq_true_eq,AV]at ht;refine⟨by have:=h.on;omega,by have:=h.hn;omega,Za,λi hi=>S8 (h.fit i hi).1 h.n2,λi hi=>?_,λi hi=>?_⟩;.have:=h.chg i hi;simp only[Lx,Am]at this;exact S8 this.2.1 h.n2
 .have:=ht.2.2 i hi;simp only[NH,Am,decide_eq_true_eq]at this;exact⟨Q3 this.1,Za⟩
theorem Y7{x:Bk}{j:Nat}(h:VB (EP x j))(hj:j<x.hn):EP x (j+1)=MG (EP x j):=by
 have h0:0<(EP x j).hn:=by show 0<x.hn-j;omega
 have hv:=h.ver 0 h0;have e1:(EP x (j+1)).floor=(MG (EP x j)).floor:=by show x.floor+((j+1:Nat):Int)=((EP x j).hs 0).ver;rw[hv];show _=x.floor+(j:Int)+1+((0:Nat):Int);omega
 have e2:(EP x (j+1)).hn=(MG (EP x j)).hn:=by show x.hn-(j+1)=x.hn-j-1;omega
 have e3:(EP x (j+1)).hs=(MG (EP x j)).hs:=by funext i;show x.hs (i+(j+1))=x.hs (i+1+j);congr 1;omega
 show(⟨x.now,(EP x (j+1)).floor,x.on,x.os,(EP x (j+1)).hn,(EP x (j+1)).hs,x.tn,x.ts⟩:Bk)=⟨x.now,(MG (EP x j)).floor,x.on,x.os,(MG (EP x j)).hn,(MG (EP x j)).hs,x.tn,x.ts⟩;rw[e1,e2,e3]
theorem QT{x:Bk}(h:VB x):∀j,j<=x.hn->VB (EP x j)
 |0,_=>by
  have e:EP x 0=x:=by unfold EP;simp
  rw[e];exact h
 |j+1,hj=>by have ih:=QT h j Za;rw[Y7 ih Za];exact XU ih (by show 0<x.hn-j;omega)
theorem kI{x:Bk}(h:VB x)(fl:Int):VB (PA x fl):=by unfold PA;rw[if_pos (O9 h)];refine QT h _ ?_;unfold PZ;have h1:=h.hnow;omega
def bm (w:World)(e:Ending)(w':World):Prop:=Below w.1.size w w'/\∃(Y:Bk)(b1 b2 b3:OA)(e1 e2 e3:Nat),e=.returned (.agg (vB Y b1 b2 b3 e1 e2 e3))/\Mm w' Y b1 b2 b3 e3
theorem kL (B:Bk)(a1 a2 a3:OA)(c1 c2 c3:Nat)(fl:Int)(w:World)(hb:Mm w B a1 a2 a3 c3):Calls prog 7 #[.agg (vB B a1 a2 a3 c1 c2 c3),.i fl] w λe w'=>bm w e w':=by have ht:B.tn<=50:=Tk (O9 hb.v);refine(S3 B a1 a2 a3 c1 c2 c3 fl _ rfl w 0 w.1.size AQ (by have:=hb.v.on;omega) (by have:=hb.v.hn;omega) Za hb.f hb.i).mono ?_;rintro e w' ⟨b1,b2,b3,d1,d2,d3,rfl,hin,hc,hB⟩;have hv:=kI hb.v fl;exact⟨hB,_,b1,b2,b3,d1,d2,d3,rfl,hv,Uh hv,hin.lo0,hc⟩
theorem gP (B:Bk)(a1 a2 a3:OA)(c1 c2 c3:Nat)(w:World)(hb:Mm w B a1 a2 a3 c3):Calls prog 20 #[.agg (vB B a1 a2 a3 c1 c2 c3)] w λe w'=>Below w.1.size w w'/\∃(b1 b2 b3:OA)(e1 e2 e3:Nat),e=.returned (.agg (vB B b1 b2 b3 e1 e2 e3))/\BF w' w.1.size w'.1.size B b1 b2 b3/\Lh w' B.tn b3 e3:=by have ht:B.tn<=50:=Tk (O9 hb.v);refine(R4 B a1 a2 a3 c1 c2 c3 w 0 w.1.size AQ (by have:=hb.v.on;omega) (by have:=hb.v.hn;omega) Za hb.f hb.i).mono ?_;rintro e w' ⟨b1,b2,b3,d1,d2,d3,rfl,hin,⟨_,hc⟩,hB⟩;exact⟨hB,b1,b2,b3,d1,d2,d3,rfl,hin,hc⟩
def bs (w:World)(e:Ending)(w':World):Prop:=Below w.1.size w w'/\∃(Y:Bk)(b1 b2 b3:OA)(e1 e2 e3:Nat)(u:Value),e=.returned (.tuple #[.agg (vB Y b1 b2 b3 e1 e2 e3),u])/\Mm w' Y b1 b2 b3 e3
theorem kR (B:Bk)(c:Ca)(a1 a2 a3:OA)(c1 c2 c3:Nat)(u1 u2:OA)(d1 d2:Nat)(w:World)(hb:Mm w B a1 a2 a3 c3)(hn:(c.client.size:Int)<=140737488355328)(hu:Va c.bu)(hbu:Lv w 0 w.1.size c.bu u1 u2):Calls prog 73 #[.agg (vB B a1 a2 a3 c1 c2 c3),.agg (vC c u1 u2 d1 d2)] w λe w'=>bs w e w':=by refine(Yp B c a1 a2 a3 c1 c2 c3 u1 u2 d1 d2 w hb.f ⟨hn,hu.fit,hu.int⟩ hb.i hbu (O9 hb.v) hb.c).mono ?_;rintro e w' ⟨hB,b1,b2,b3,e1,e2,e3,rfl,hin,hc⟩;have hv:=pB (c:=c) hb.f hb.v hu.fit;exact⟨hB,_,b1,b2,b3,e1,e2,e3,_,rfl,hv,Uh hv,hin,hc⟩
end Go.Proofs.YtnnjcenacidceaaGreat
