import Derived.Test.YtllmmkchokkaaaaGreatDoorPk02
import Derived.ProofKit
import Derived.SizedLaws
import Derived.Deep.Slices
import Derived.Deep.Strs
import Derived.Test.YtllmmkchokkaaaaGreatDoorPk30
import Derived.Test.YtllmmkchokkaaaaGreatDoorPk09
import Derived.Test.YtllmmkchokkaaaaGreatDoorPk19
import Derived.Test.YtllmmkchokkaaaaGreatDoorPk20
set_option maxRecDepth 100000
namespace Go.Proofs.YtllmmkchokkaaaaGreatDoor
open Go.ChangeShapes Go.WideShapes Go.ChangeAt Go.RowKit Go.Deep Go.Proofs.Tryz
theorem nN:prog.cellsOf 9=1:=Zc
theorem Tryz.c3:prog.cellsOf 3=1:=Zc
theorem Tryz.c4:prog.cellsOf 4=1:=Zc
theorem Q3:prog.cellsOf 110=7:=Zc
theorem Q8:prog.cellsOf 113=9:=Zc
theorem Q6:prog.cellsOf 116=5:=Zc
theorem jK:prog.cellsOf 26=5:=Zc
theorem nL:prog.bytesOf 9=16:=Zc
theorem YC:prog.bytesOf 110=96:=Zc
theorem YA:prog.bytesOf 113=112:=Zc
theorem Yy:prog.bytesOf 116=56:=Zc
def IY{H:Type}(t:TypeId)(d:DataW H):Prop:=∀x∈DataW.weights prog t d,x<=reachBytes
theorem Kp{H:Type}{P:Program}{e:TypeId}:∀{l:List (DataW H)}{d:DataW H},d∈l->∀x∈DataW.weights P e d,x∈DataW.weightsAll P e l
 |d0::r,d,h,x,hx=>by
  rw[DataW.weightsAll];rcases EI.1 h with rfl|h;.exact GE _ hx
  .exact Jw _ (Kp h x hx)
theorem PI{H:Type}{t e:TypeId}{es sp:List (DataW H)}(hu:prog.underlying t=some (.slice e))(h:IY t (.slice es sp)):(es.length+sp.length)*prog.bytesOf e<=reachBytes/\∀d∈es,IY e d:=by refine⟨h _ (by simp[DataW.weights,hu]),λd hd x hx=>h x ?_⟩;simp only[DataW.weights,hu];exact List.mem_cons_of_mem _ (GE _ (Kp hd x hx))
theorem NU{H:Type}{t:TypeId}{b:List UInt8}(h:IY (H:=H) t (.lit (.string b))):b.length<=reachBytes:=h _ (by simp[DataW.weights])
theorem MQ{W:World}{a:Addr}{v:Value}(h:W.cell? a=some v):a.block<W.1.size:=by
 unfold World.cell? at h;rcases As a.block W.1.size with h1|h1;.exact h1
 .rw[Cs h1]at h;cases h
theorem iL{H:Type}{enc:TypeId×Value->H}{W:World}{fuel:Nat}{v:Value}{x:DataW H×List MemPlace}(h:DataW.trod enc prog W 0 (λ_=>true) true fuel 108 [v]=some x)(hs:IY 108 x.1):∃ad n cap s,v=.slice ad n cap/\AB W 0 W.1.size ad n s/\(n:Int)<=8796093022208/\∀i,i<n->((s i).size:Int)<=140737488355328:=by
 rcases open_strs underlying108 underlying9 nN h with⟨hc,_⟩|⟨a,len,cap,m,s,hc,_,hl,_,hm,hx,hcell⟩;.simp only[KM,and_true]at hc;exact⟨none,0,0,λ_=>⟨#[]⟩,hc,λi hi=>absurd hi (Al _),Za,λi hi=>absurd hi (Al _)⟩
 .simp only[KM,and_true]at hc;simp only[if_true]at hm;subst hm;subst hx;obtain⟨f1,f2⟩:=PI underlying108 hs;simp only[List.length_map,List.length_range,nL,reachBytes]at f1;refine⟨some a,len,m,s,hc,λi hi=>?_,Za,λi hi=>?_⟩
  .obtain⟨b,off,spot⟩:=a;have hspot:spot=none:=by simpa[Addr.add]using World.cell?_spot (hcell 0 Za).1
   subst hspot;have hci:=(hcell i Za).1;have ea:((⟨b,off,none⟩:Addr).add i)=⟨b,off+i,none⟩:=by simp[Addr.add]
   rw[ea]at hci;exact⟨b,off,rfl,Ap _,MQ hci,hci⟩
  .have:=NU (f2 _ (Ey.2 ⟨i,Dq.2 hi,rfl⟩));have e:(s i).data.toList.length=(s i).size:=rfl;simp only[reachBytes]at this;omega
theorem nW{α:Type}{l:List α}(h:l.length=7):∃a b c d e f g,l=[a,b,c,d,e,f,g]:=by match l,h with
 |[a,b,c,d,e,f,g],_=>exact⟨a,b,c,d,e,f,g,rfl⟩
theorem Wi{α:Type}{l:List α}(h:l.length=5):∃a b c d e,l=[a,b,c,d,e]:=by match l,h with
 |[a,b,c,d,e],_=>exact⟨a,b,c,d,e,rfl⟩
theorem Wy{α:Type}{l:List α}(h:l.length=3):∃a b c,l=[a,b,c]:=by match l,h with
 |[a,b,c],_=>exact⟨a,b,c,rfl⟩
theorem tY{α:Type}{l:List α}(h:l.length=9):∃a b c d e f g i j,l=[a,b,c,d,e,f,g,i,j]:=by match l,h with
 |[a,b,c,d,e,f,g,i,j],_=>exact⟨a,b,c,d,e,f,g,i,j,rfl⟩
theorem Fj{H:Type}{enc:TypeId×Value->H}{W:World}{n:Nat}{v:Value}{y:DataW H×List MemPlace}(h:DataW.trod enc prog W 0 (λ_=>true) true n 9 [v]=some y)(hs:IY 9 y.1):∃s:ByteArray,v=.string s/\(s.size:Int)<=140737488355328:=by obtain⟨s,h1,h2,_⟩:=DataW.trod_string underlying9 h;subst h2;have:=NU hs;have e:s.data.toList.length=s.size:=rfl;simp only[reachBytes]at this;exact⟨s,by simpa using h1,Za⟩
theorem Hr{H:Type}{enc:TypeId×Value->H}{W:World}{n:Nat}{v:Value}{y:DataW H×List MemPlace}(h:DataW.trod enc prog W 0 (λ_=>true) true n 3 [v]=some y):∃a:Int,v=.int .i64 a:=by obtain⟨a,h1,_⟩:=DataW.trod_int underlying3 h;exact⟨a,by simpa using h1⟩
theorem P1{H:Type}{enc:TypeId×Value->H}{W:World}{n:Nat}{v:Value}{y:DataW H×List MemPlace}(h:DataW.trod enc prog W 0 (λ_=>true) true n 3 [v]=some y):∃a:Int,v=.int .i64 a/\(Lit.int .i64 a).wf=true:=by obtain⟨a,h1,_,h3⟩:=DataW.trod_int underlying3 h;exact⟨a,by simpa using h1,h3⟩
theorem T8{H:Type}{enc:TypeId×Value->H}{W:World}{n:Nat}{v:Value}{y:DataW H×List MemPlace}(h:DataW.trod enc prog W 0 (λ_=>true) true n 4 [v]=some y):∃a:Bool,v=.bool a:=by obtain⟨a,h1,_⟩:=DataW.trod_bool underlying4 h;exact⟨a,by simpa using h1⟩
theorem iR{H:Type}{enc:TypeId×Value->H}{W:World}{fuel:Nat}{cs:List Value}{x:DataW H×List MemPlace}(h:DataW.trod enc prog W 0 (λ_=>true) true fuel 110 cs=some x)(hs:IY 110 x.1):∃(o:Ob)(ah:OA)(ch:Nat),cs=[.string o.kind,.string o.name,.int .i64 o.ver,.int .i64 o.born,.string o.text,.bool o.ending,.slice ah o.hn ch]/\AB W 0 W.1.size ah o.hn o.hs/\CW o:=by obtain⟨xs,n,_,rfl,hlen,hxl,hf⟩:=DR underlying110 h;rw[Q3]at hlen;obtain⟨c0,c1,c2,c3,c4,c5,c6,rfl⟩:=nW hlen;obtain⟨y0,y1,y2,y3,y4,y5,y6,rfl⟩:=nW (show xs.length=7 from hxl);have g0:=hf 0 _ rfl;have g1:=hf 1 _ rfl;have g2:=hf 2 _ rfl;have g3:=hf 3 _ rfl;have g4:=hf 4 _ rfl;have g5:=hf 5 _ rfl;have g6:=hf 6 _ rfl;simp only[Ad,Ab]at g0 g1 g2 g3 g4 g5 g6;have hs':∀z,z∈DataW.weights prog 9 y0.1\/z∈DataW.weights prog 9 y1.1\/z∈DataW.weights prog 9 y4.1\/z∈DataW.weights prog 108 y6.1->z<=reachBytes:=λz hz=>hs z (by simp only[Dn,D7,DataW.weights,underlying110,DataW.weightsEach,CJ];rcases hz with hz|hz|hz|hz<;>simp[hz]);obtain⟨k,rfl,fk⟩:=Fj g0 (λz hz=>hs' z (AD hz));obtain⟨nm,rfl,fn⟩:=Fj g1 (λz hz=>hs' z (Ax (AD hz)));obtain⟨ve,rfl,wv⟩:=P1 g2;obtain⟨bo,rfl⟩:=Hr g3;obtain⟨te,rfl,ft⟩:=Fj g4 (λz hz=>hs' z (Ax (Ax (AD hz))));obtain⟨en,rfl⟩:=T8 g5;obtain⟨ah,hn,ch,s,rfl,hst,fh,fs⟩:=iL g6 (λz hz=>hs' z (Ax (Ax (Ax hz))));exact⟨⟨k,nm,ve,bo,te,en,hn,s⟩,ah,ch,rfl,hst,⟨fk,fn,ft,fh,fs,wv⟩⟩
theorem rU{H:Type}{enc:TypeId×Value->H}{W:World}{fuel:Nat}{cs:List Value}{x:DataW H×List MemPlace}(h:DataW.trod enc prog W 0 (λ_=>true) true fuel 113 cs=some x)(hs:IY 113 x.1):∃(o:Ch)(ah:OA)(ch:Nat),cs=[.int .i64 o.ver,.bool o.gone,.string o.ob.kind,.string o.ob.name,.int .i64 o.ob.ver,.int .i64 o.ob.born,.string o.ob.text,.bool o.ob.ending,.slice ah o.ob.hn ch]/\AB W 0 W.1.size ah o.ob.hn o.ob.hs/\CW o.ob:=by obtain⟨xs,n,_,rfl,hlen,hxl,hf⟩:=DR underlying113 h;rw[Q8]at hlen;obtain⟨c0,c1,c2,c3,c4,c5,c6,c7,c8,rfl⟩:=tY hlen;obtain⟨y0,y1,y2,rfl⟩:=Wy (show xs.length=3 from hxl);have g0:=hf 0 _ rfl;have g1:=hf 1 _ rfl;have g2:=hf 2 _ rfl;simp only[Ad,Ab]at g0 g1 g2;have hs':IY 110 y2.1:=λz hz=>hs z (by simp only[Dn,D7,DataW.weights,underlying113,DataW.weightsEach,CJ];simp[hz]);obtain⟨ve,rfl⟩:=Hr g0;obtain⟨go,rfl⟩:=T8 g1;obtain⟨o,ah,ch,hcs,hst,hfit⟩:=iR g2 hs';exact⟨⟨ve,go,o⟩,ah,ch,congrArg (λl=>Value.int .i64 ve::Value.bool go::l) hcs,hst,hfit⟩
theorem qR{H:Type}{enc:TypeId×Value->H}{W:World}{fuel:Nat}{cs:List Value}{x:DataW H×List MemPlace}(h:DataW.trod enc prog W 0 (λ_=>true) true fuel 116 cs=some x)(hs:IY 116 x.1):∃o:Ti,cs=[.string o.client,.int .i64 o.num,.string o.print,.int .i64 o.code,.int .i64 o.ver]/\KA o:=by obtain⟨xs,n,_,rfl,hlen,hxl,hf⟩:=DR underlying116 h;rw[Q6]at hlen;obtain⟨c0,c1,c2,c3,c4,rfl⟩:=Wi hlen;obtain⟨y0,y1,y2,y3,y4,rfl⟩:=Wi (show xs.length=5 from hxl);have g0:=hf 0 _ rfl;have g1:=hf 1 _ rfl;have g2:=hf 2 _ rfl;have g3:=hf 3 _ rfl;have g4:=hf 4 _ rfl;simp only[Ad,Ab]at g0 g1 g2 g3 g4;have hs':∀z,z∈DataW.weights prog 9 y0.1\/z∈DataW.weights prog 9 y2.1->z<=reachBytes:=λz hz=>hs z (by simp only[Dn,D7,DataW.weights,underlying116,DataW.weightsEach,CJ];rcases hz with hz|hz<;>simp[hz]);obtain⟨k,rfl,fk⟩:=Fj g0 (λz hz=>hs' z (AD hz));obtain⟨nu,rfl⟩:=Hr g1;obtain⟨pr,rfl,fp⟩:=Fj g2 (λz hz=>hs' z (Ax hz));obtain⟨co,rfl⟩:=Hr g3;obtain⟨ve,rfl⟩:=Hr g4;exact⟨⟨k,nu,pr,co,ve⟩,rfl,⟨fk,fp⟩⟩
theorem Pa{H:Type}{enc:TypeId×Value->H}{W:World}{fuel:Nat}{v:Value}{x:DataW H×List MemPlace}{t e:TypeId}{z:Nat}(ht:prog.underlying t=some (.slice e))(hz:prog.cellsOf e=z)(hz0:0<z)(h:DataW.trod enc prog W 0 (λ_=>true) true fuel t [v]=some x)(hs:IY t x.1)(hb:16<=prog.bytesOf e):∃ad n cap,v=.slice ad n cap/\(n:Int)<=8796093022208/\∀i,i<n->∃(b off:Nat)(cs:List Value)(k:Nat)(y:DataW H×List MemPlace),ad=some ⟨b,off,none⟩/\b<W.1.size/\(∀j,j<z->W.cell? ⟨b,off+i*z+j,none⟩=cs[j]?)/\DataW.trod enc prog W 0 (λ_=>true) true k e cs=some y/\IY e y.1:=by
 rcases open_slice ht h with⟨hc,_⟩|⟨a,len,cap,m,n,D,Pl,hc,_,hl,_,hm,hx,hel⟩;.simp only[KM,and_true]at hc;exact⟨none,0,0,hc,Za,λi hi=>absurd hi (Al _)⟩
 .simp only[KM,and_true]at hc;simp only[if_true]at hm;subst hm;subst hx;obtain⟨f1,f2⟩:=PI ht hs;simp only[List.length_map,List.length_range,reachBytes]at f1;have f3:(len+(m-len))*16<=140737488351232:=AA (Nat.mul_le_mul_left _ hb) f1;refine⟨some a,len,m,hc,Za,λi hi=>?_⟩;obtain⟨cs,h1,h2⟩:=hel i Za;rw[hz]at h1;obtain⟨_,hcl,hcc⟩:=World.cells?_some h1;obtain⟨cs0,h10,_⟩:=hel 0 Za;rw[hz]at h10;obtain⟨_,hcl0,hcc0⟩:=World.cells?_some h10;obtain⟨b,off,spot⟩:=a;have hspot:spot=none:=by have:=hcc0 0 hz0;rw[BK Za]at this;simpa[Addr.add]using World.cell?_spot this
  subst hspot;have ea:∀j,(((⟨b,off,none⟩:Addr).add (i*z)).add j)=⟨b,off+i*z+j,none⟩:=λj=>by simp[add_plain]
  have hb':b<W.1.size:=by have:=hcc 0 hz0;rw[ea,BK Za]at this;exact MQ this
  exact⟨b,off,cs,n,_,rfl,hb',λj hj=>by rw[<-ea];exact hcc j hj,h2,f2 _ (Ey.2 ⟨i,Dq.2 hi,rfl⟩)⟩
theorem VI{P:Prop}(h:P:=by exact⟨ad,n,cap,xs,rfl,hn,λi hi=>(hxs i hi).1,λi hi=>(hxs i hi).2⟩):P:=h
theorem lW{H:Type}{enc:TypeId×Value->H}{W:World}{fuel:Nat}{v:Value}{x:DataW H×List MemPlace}(h:DataW.trod enc prog W 0 (λ_=>true) true fuel 22 [v]=some x)(hs:IY 22 x.1):∃ad n cap xs,v=.slice ad n cap/\(n:Int)<=8796093022208/\BH W 0 W.1.size ad n xs/\∀i,i<n->CW (xs i):=by obtain⟨ad,n,cap,rfl,hn,hel⟩:=Pa underlying22 Q3 Za h hs (by rw[YC];omega);obtain⟨xs,hxs⟩:=S9 (⟨⟨#[]⟩,⟨#[]⟩,0,0,⟨#[]⟩,false,0,λ_=>⟨#[]⟩⟩:Ob) (p:=λi o=>(∃b off ah ch,ad=some ⟨b,off,none⟩/\0<=b/\b<W.1.size/\DC W b (off+i*7) o ah ch/\AB W 0 W.1.size ah o.hn o.hs)/\CW o) (λi hi=>by obtain⟨b,off,cs,k,y,rfl,hb,hc,ht,hf⟩:=hel i hi;obtain⟨o,ah,ch,rfl,hst,hfit⟩:=iR ht hf;exact⟨o,⟨b,off,ah,ch,rfl,Ap _,hb,⟨hc 0 Za,hc 1 Za,hc 2 Za,hc 3 Za,hc 4 Za,hc 5 Za,hc 6 Za⟩,hst⟩,hfit⟩);exact VI
theorem mC{H:Type}{enc:TypeId×Value->H}{W:World}{fuel:Nat}{v:Value}{x:DataW H×List MemPlace}(h:DataW.trod enc prog W 0 (λ_=>true) true fuel 23 [v]=some x)(hs:IY 23 x.1):∃ad n cap xs,v=.slice ad n cap/\(n:Int)<=8796093022208/\Dp W 0 W.1.size ad n xs/\∀i,i<n->CW (xs i).ob:=by obtain⟨ad,n,cap,rfl,hn,hel⟩:=Pa underlying23 Q8 Za h hs (by rw[YA];omega);obtain⟨xs,hxs⟩:=S9 (⟨0,false,⟨⟨#[]⟩,⟨#[]⟩,0,0,⟨#[]⟩,false,0,λ_=>⟨#[]⟩⟩⟩:Ch) (p:=λi o=>(∃b off ah ch,ad=some ⟨b,off,none⟩/\0<=b/\b<W.1.size/\Ga W b (off+i*9) o ah ch/\AB W 0 W.1.size ah o.ob.hn o.ob.hs)/\CW o.ob) (λi hi=>by obtain⟨b,off,cs,k,y,rfl,hb,hc,ht,hf⟩:=hel i hi;obtain⟨o,ah,ch,rfl,hst,hfit⟩:=rU ht hf;exact⟨o,⟨b,off,ah,ch,rfl,Ap _,hb,⟨hc 0 Za,hc 1 Za,hc 2 Za,hc 3 Za,hc 4 Za,hc 5 Za,hc 6 Za,hc 7 Za,hc 8 Za⟩,hst⟩,hfit⟩);exact VI
theorem nD{H:Type}{enc:TypeId×Value->H}{W:World}{fuel:Nat}{v:Value}{x:DataW H×List MemPlace}(h:DataW.trod enc prog W 0 (λ_=>true) true fuel 24 [v]=some x)(hs:IY 24 x.1):∃ad n cap xs,v=.slice ad n cap/\(n:Int)<=8796093022208/\B8 W 0 W.1.size ad n xs/\∀i,i<n->KA (xs i):=by obtain⟨ad,n,cap,rfl,hn,hel⟩:=Pa underlying24 Q6 Za h hs (by rw[Yy];omega);obtain⟨xs,hxs⟩:=S9 (⟨⟨#[]⟩,0,⟨#[]⟩,0,0⟩:Ti) (p:=λi o=>(∃b off,ad=some ⟨b,off,none⟩/\0<=b/\b<W.1.size/\Hs W b (off+i*5) o)/\KA o) (λi hi=>by obtain⟨b,off,cs,k,y,rfl,hb,hc,ht,hf⟩:=hel i hi;obtain⟨o,rfl,hfit⟩:=qR ht hf;exact⟨o,⟨b,off,rfl,Ap _,hb,⟨hc 0 Za,hc 1 Za,hc 2 Za,hc 3 Za,hc 4 Za⟩⟩,hfit⟩);exact VI
theorem pZ{H:Type}{enc:TypeId×Value->H}{W:World}{b0:Nat}{v:Value}{d:DataW H}{p:List MemPlace}(hv:Value.okWide prog W .any b0 26 v)(h:DataW.Trod enc prog W 0 (λ_=>true) true 26 v d p)(hs:IY 26 d):∃(x:Bk)(a1 a2 a3:OA)(c1 c2 c3:Nat),v=.agg (vB x a1 a2 a3 c1 c2 c3)/\Bz W 0 W.1.size x a1 a2 a3/\Vs x:=by
 obtain⟨cs,rfl,hsz⟩:=okWide_struct underlying26 hv;obtain⟨fuel,hf0⟩:=h;obtain⟨xs,n,_,hx,hlen,hxl,hf⟩:=DR underlying26 hf0;simp only[Prod.mk.injEq]at hx;obtain⟨rfl,rfl⟩:=hx;rw[jK]at hsz;obtain⟨e0,e1,e2,e3,e4,he⟩:=Wi (show cs.toList.length=5 by simpa using hsz);obtain rfl:cs=#[e0,e1,e2,e3,e4]:=by apply Array.ext';simpa using he
 obtain⟨y0,y1,y2,y3,y4,rfl⟩:=Wi (show xs.length=5 from hxl);have g0:=hf 0 _ rfl;have g1:=hf 1 _ rfl;have g2:=hf 2 _ rfl;have g3:=hf 3 _ rfl;have g4:=hf 4 _ rfl;simp only[Ad,Ab]at g0 g1 g2 g3 g4;have hs':∀z,z∈DataW.weights prog 22 y2.1\/z∈DataW.weights prog 23 y3.1\/z∈DataW.weights prog 24 y4.1->z<=reachBytes:=λz hz=>hs z (by simp only[Dn,D7,DataW.weights,underlying26,DataW.weightsEach,CJ];rcases hz with hz|hz|hz<;>simp[hz]);obtain⟨no,rfl⟩:=Hr g0;obtain⟨fl,rfl⟩:=Hr g1;obtain⟨a1,n1,c1,x1,rfl,b1,i1,j1⟩:=lW g2 (λz hz=>hs' z (AD hz));obtain⟨a2,n2,c2,x2,rfl,b2,i2,j2⟩:=mC g3 (λz hz=>hs' z (Ax (AD hz)));obtain⟨a3,n3,c3,x3,rfl,b3,i3,j3⟩:=nD g4 (λz hz=>hs' z (Ax (Ax hz)));exact⟨⟨no,fl,n1,x1,n2,x2,n3,x3⟩,a1,a2,a3,c1,c2,c3,rfl,⟨i1,i2,i3⟩,⟨b1,b2,b3,j1,j2,j3⟩⟩
end Go.Proofs.YtllmmkchokkaaaaGreatDoor
namespace Go.Proofs.YtllmmkchokkaaaaGreatDoor
open Go.RowKit Go.Maps Go.Proofs.Tryz
theorem Bz.upTo{w:World}{lo hi hi':Nat}{x:Bk}{a1 a2 a3:OA}(h:Bz w lo hi x a1 a2 a3)(hh:hi<=hi'):Bz w lo hi' x a1 a2 a3:=⟨λi h'=>by obtain⟨b,off,ah,ch,e1,e2,e3,e4,e5⟩:=h.o i h';refine⟨b,off,ah,ch,e1,e2,Za,e4,λj hj=>?_⟩;obtain⟨b',off',g1,g2,g3,g4⟩:=e5 j hj;exact⟨b',off',g1,g2,Za,g4⟩,λi h'=>by obtain⟨b,off,ah,ch,e1,e2,e3,e4,e5⟩:=h.h i h';refine⟨b,off,ah,ch,e1,e2,Za,e4,λj hj=>?_⟩;obtain⟨b',off',g1,g2,g3,g4⟩:=e5 j hj;exact⟨b',off',g1,g2,Za,g4⟩,λi h'=>by obtain⟨b,off,e1,e2,e3,e4⟩:=h.t i h';exact⟨b,off,e1,e2,Za,e4⟩⟩
theorem Nw{x:Bk}(h:Hn x<=1048576):(x.on:Int)<=1048576/\(x.hn:Int)<=1048576/\(x.tn:Int)<=1048576:=by unfold Hn GR IJ JT at h;omega
structure M8 (y:Bk):Prop where
 fit:Cx y
 o:(y.on:Int)<=1048576
 h:(y.hn:Int)<=1048576
 t:(y.tn:Int)<=1048576
 m:(LO 1 y:Int)<=1073741824
def kO (v:Wr):Array Value:=(vW v)
def Cl (W:World)(B:Nat)(c:List Value):Prop:=∀j,j<c.length->W.cell? ⟨B,j,none⟩=some (Bg c j)
theorem WH{W:World}{B:Nat}{v0 v1:Value}{l:List Value}(h:Cl W B (v0::v1::l)):W.cell? ⟨B,0,none⟩=some v0/\W.cell? ⟨B,1,none⟩=some v1:=⟨h 0 Ze,h 1 Ze⟩
theorem sH{W:World}{B:Nat}{v0 v1 v2:Value}{l:List Value}(h:Cl W B (v0::v1::v2::l)):W.cell? ⟨B,0,none⟩=some v0/\W.cell? ⟨B,1,none⟩=some v1/\W.cell? ⟨B,2,none⟩=some v2:=⟨h 0 Ze,h 1 Ze,h 2 Ze⟩
theorem NT{W:World}{B:Nat}{v0 v1 v2 v3:Value}{l:List Value}(h:Cl W B (v0::v1::v2::v3::l)):W.cell? ⟨B,0,none⟩=some v0/\W.cell? ⟨B,1,none⟩=some v1/\W.cell? ⟨B,2,none⟩=some v2/\W.cell? ⟨B,3,none⟩=some v3:=⟨h 0 Ze,h 1 Ze,h 2 Ze,h 3 Ze⟩
theorem IP{W:World}{B:Nat}{v0 v1 v2 v3 v4:Value}{l:List Value}(h:Cl W B (v0::v1::v2::v3::v4::l)):W.cell? ⟨B,0,none⟩=some v0/\W.cell? ⟨B,1,none⟩=some v1/\W.cell? ⟨B,2,none⟩=some v2/\W.cell? ⟨B,3,none⟩=some v3/\W.cell? ⟨B,4,none⟩=some v4:=⟨h 0 Ze,h 1 Ze,h 2 Ze,h 3 Ze,h 4 Ze⟩
theorem bm{W:World}{B:Nat}{v0 v1 v2 v3 v4 v5:Value}{l:List Value}(h:Cl W B (v0::v1::v2::v3::v4::v5::l)):W.cell? ⟨B,0,none⟩=some v0/\W.cell? ⟨B,1,none⟩=some v1/\W.cell? ⟨B,2,none⟩=some v2/\W.cell? ⟨B,3,none⟩=some v3/\W.cell? ⟨B,4,none⟩=some v4/\W.cell? ⟨B,5,none⟩=some v5:=⟨h 0 Ze,h 1 Ze,h 2 Ze,h 3 Ze,h 4 Ze,h 5 Ze⟩
theorem xR{W:World}{B:Nat}{v0 v1 v2 v3 v4 v5 v6:Value}{l:List Value}(h:Cl W B (v0::v1::v2::v3::v4::v5::v6::l)):W.cell? ⟨B,0,none⟩=some v0/\W.cell? ⟨B,1,none⟩=some v1/\W.cell? ⟨B,2,none⟩=some v2/\W.cell? ⟨B,3,none⟩=some v3/\W.cell? ⟨B,4,none⟩=some v4/\W.cell? ⟨B,5,none⟩=some v5/\W.cell? ⟨B,6,none⟩=some v6:=⟨h 0 Ze,h 1 Ze,h 2 Ze,h 3 Ze,h 4 Ze,h 5 Ze,h 6 Ze⟩
theorem Cl.below{W W':World}{B n:Nat}{c:List Value}(h:Cl W B c)(hb:Below n W W')(hB:B<n):Cl W' B c:=λj hj=>(hb.cell (p:=⟨B,j,none⟩) hB).trans (h j hj)
theorem Cl.frP{W W':World}{B:Nat}{c:List Value}{P:Nat->Prop}(h:Cl W B c)(hf:AP P W W')(hB:B<W.1.size)(hp:¬P B):Cl W' B c:=λj hj=>(hf.cell (p:=⟨B,j,none⟩) hB hp).trans (h j hj)
def Fk (co:Int)(x:Bk)(ve:Int)(a1 a2 a3:OA)(c1 c2 c3:Nat):List Value:=[.i co,.i x.now,.i x.floor,.l a1 x.on c1,.l a2 x.hn c2,.l a3 x.tn c3,.i ve]
theorem aK{W:World}{B:Nat}{co ve:Int}{x:Bk}{a1 a2 a3:OA}{c1 c2 c3:Nat}(h:Cl W B (Fk co x ve a1 a2 a3 c1 c2 c3)):W.cell? ⟨B,0,none⟩=some (.i co)/\W.cell? ⟨B,1,none⟩=some (.i x.now)/\W.cell? ⟨B,2,none⟩=some (.i x.floor)/\W.cell? ⟨B,3,none⟩=some (.slice a1 x.on c1)/\W.cell? ⟨B,4,none⟩=some (.slice a2 x.hn c2)/\W.cell? ⟨B,5,none⟩=some (.slice a3 x.tn c3)/\W.cell? ⟨B,6,none⟩=some (.i ve):=⟨h 0 (by simp[Fk]),h 1 (by simp[Fk]),h 2 (by simp[Fk]),h 3 (by simp[Fk]),h 4 (by simp[Fk]),h 5 (by simp[Fk]),h 6 (by simp[Fk])⟩
theorem CH.frP{W W':World}{B:Nat}{c:Array Value}{P:Nat->Prop}(h:CH W B c)(hf:AP P W W')(hB:B<W.1.size)(hp:¬P B):CH W' B c:=λi=>(hf.cell (p:=⟨B,i,none⟩) hB hp).trans (h i)
theorem N0.isIn{w:World}{lo hi:Nat}{x:Bk}{g1 g2 g3:Nat}(h:N0 w lo hi x g1 g2 g3):Bz w lo w.1.size x (some ⟨g1,0,none⟩) (some ⟨g2,0,none⟩) (some ⟨g3,0,none⟩):=by obtain⟨p,h1,h2,h3,h4,h5⟩:=h.at;have:=h4.isIn (lo:=lo) (λq hq=>(h5 q hq).1);rw[h1,h2,h3]at this;exact this
structure DL (W:World)(s0:Nat)(x:Bk)(v:Wr)(a1 a2 a3:OA)(c1 c2 c3:Nat)(co:Int)(y:Bk)(ve:Int)(n1 n2 zw zx zg:Nat)(b1 b2 b3:OA)(e1 e2 e3:Nat)(p:Pl)(d1 d2 d3:Nat)(g:Pl)(f1 f2 f3:Nat)(xm ym:Bk):Prop where
 bx:CH W s0 (WX x a1 a2 a3 c1 c2 c3)bv:CH W (s0+1) (kO v)arg:Bz W 0 s0 x a1 a2 a3
 vw:Cl W zw (Fk co y ve b1 b2 b3 e1 e2 e3)ww:Bz W 0 n1 y b1 b2 b3
 vx:CH W zx (WX x p.a1 p.a2 p.a3 d1 d2 d3)xx:CZ W xm p
 xb:∀q,DS p xm q->n1<=q/\q<zx
 vg:Cl W zg (Fk co y ve g.a1 g.a2 g.a3 f1 f2 f3)gg:CZ W ym g
 gb:∀q,DS g ym q->n2<=q/\¬q=zg
 o0:s0+1<n1
 o1:zw<n1
 o2:n1<=zx
 o3:zx<n2
 o5:n2<=zg
 o4:zg<W.1.size
section
variable {W W':World} {s0:Nat} {x:Bk} {v:Wr} {a1 a2 a3:OA} {c1 c2 c3:Nat} {co:Int} {y:Bk} {ve:Int} {n1 n2 zw zx zg:Nat} {b1 b2 b3:OA} {e1 e2 e3:Nat} {p:Pl} {d1 d2 d3:Nat} {g:Pl} {f1 f2 f3:Nat} {xm ym:Bk}
theorem DL.below (h:DL W s0 x v a1 a2 a3 c1 c2 c3 co y ve n1 n2 zw zx zg b1 b2 b3 e1 e2 e3 p d1 d2 d3 g f1 f2 f3 xm ym)(hb:Below W.1.size W W'):DL W' s0 x v a1 a2 a3 c1 c2 c3 co y ve n1 n2 zw zx zg b1 b2 b3 e1 e2 e3 p d1 d2 d3 g f1 f2 f3 xm ym:=by have h0:=h.o0;have h1:=h.o1;have h5:=h.o5;have h2:=h.o2;have h3:=h.o3;have h4:=h.o4;exact⟨h.bx.below hb Za,h.bv.below hb Za,h.arg.below hb Za,h.vw.below hb Za,h.ww.below hb Za,h.vx.below hb Za,h.xx.grow hb,h.xb,h.vg.below hb Za,h.gg.grow hb,h.gb,h0,h1,h2,h3,h5,Aa h4 hb.size⟩
theorem DL.markX (h:DL W s0 x v a1 a2 a3 c1 c2 c3 co y ve n1 n2 zw zx zg b1 b2 b3 e1 e2 e3 p d1 d2 d3 g f1 f2 f3 xm ym)(k0:Nat)(hx:CZ W' (K0 k0 xm) p)(hf:AP (DS p xm) W W'):DL W' s0 x v a1 a2 a3 c1 c2 c3 co y ve n1 n2 zw zx zg b1 b2 b3 e1 e2 e3 p d1 d2 d3 g f1 f2 f3 (K0 k0 xm) ym:=by have h0:=h.o0;have h1:=h.o1;have h5:=h.o5;have h2:=h.o2;have h3:=h.o3;have h4:=h.o4;have hB:Below n1 W W':=hf.below (B:=n1) (λq hq e=>by have:=h.xb _ e;omega) Za;exact⟨h.bx.below hB Za,h.bv.below hB Za,h.arg.below hB Za,h.vw.frP hf Za (λe=>by have:=h.xb _ e;omega),h.ww.below hB Bj,h.vx.frP hf Za (λe=>by have:=h.xb _ e;omega),hx,by rw[OQ];exact h.xb,h.vg.frP hf Za (λe=>by have:=h.xb _ e;omega),h.gg.fr hf (λq hq e=>by have a:=h.gb q hq;have b:=h.xb _ e;omega),h.gb,h0,h1,h2,h3,h5,Aa h4 hf.size⟩
theorem DL.markG (h:DL W s0 x v a1 a2 a3 c1 c2 c3 co y ve n1 n2 zw zx zg b1 b2 b3 e1 e2 e3 p d1 d2 d3 g f1 f2 f3 xm ym)(k0:Nat)(hg:CZ W' (K0 k0 ym) g)(hf:AP (DS g ym) W W'):DL W' s0 x v a1 a2 a3 c1 c2 c3 co y ve n1 n2 zw zx zg b1 b2 b3 e1 e2 e3 p d1 d2 d3 g f1 f2 f3 xm (K0 k0 ym):=by have h0:=h.o0;have h1:=h.o1;have h5:=h.o5;have h2:=h.o2;have h3:=h.o3;have h4:=h.o4;have hB:Below n2 W W':=hf.below (B:=n2) (λq hq e=>by have:=h.gb _ e;omega) Za;exact⟨h.bx.below hB Za,h.bv.below hB Za,h.arg.below hB Za,h.vw.below hB Za,h.ww.below hB Za,h.vx.frP hf Za (λe=>by have:=h.gb _ e;omega),h.xx.fr hf (λq hq e=>by have a:=h.xb q hq;have b:=h.gb _ e;omega),h.xb,h.vg.frP hf Za (λe=>by have:=h.gb _ e;omega),hg,by rw[OQ];exact h.gb,h0,h1,h2,h3,h5,Aa h4 hf.size⟩
theorem DL.win (h:DL W s0 x v a1 a2 a3 c1 c2 c3 co y ve n1 n2 zw zx zg b1 b2 b3 e1 e2 e3 p d1 d2 d3 g f1 f2 f3 xm ym):Bz W 0 W.1.size y b1 b2 b3:=by have h2:=h.o2;have h3:=h.o3;have h4:=h.o4;have h5:=h.o5;exact h.ww.upTo Za
end
end Go.Proofs.YtllmmkchokkaaaaGreatDoor
namespace Go.Proofs.YtllmmkchokkaaaaGreatDoor
open Go.RowKit Go.Maps Go.Proofs.Tryz
theorem Bz.grow{w w':World}{lo:Nat}{x:Bk}{a1 a2 a3:OA}(h:Bz w lo w.1.size x a1 a2 a3)(hb:Below w.1.size w w'):Bz w' lo w'.1.size x a1 a2 a3:=(h.below hb Bj).upTo hb.size
theorem JF{w:World}{z b j:Nat}{s:ByteArray}(hn:∀j s,¬w.cell? ⟨z,j,none⟩=some (.s s))(h:w.cell? ⟨b,j,none⟩=some (.s s)):¬b=z:=λe=>by subst e;exact hn _ _ h
theorem Bz.box{w w':World}{lo hi z:Nat}{x:Bk}{a1 a2 a3:OA}(h:Bz w lo hi x a1 a2 a3)(hf:AP (λq=>q=z) w w')(hn:∀j s,¬w.cell? ⟨z,j,none⟩=some (.s s))(hz:hi<=w.1.size):Bz w' lo hi x a1 a2 a3:=by
 have cc:∀{b j u},¬b=z->b<w.1.size->w.cell? ⟨b,j,none⟩=some u->w'.cell? ⟨b,j,none⟩=some u:=λ{b j u}h1 h2 h3=>(hf.cell (p:=⟨b,j,none⟩) h2 h1).trans h3;have ss:∀{ad n s},AB w lo hi ad n s->AB w' lo hi ad n s:=λ{ad n s}h i hi=>by obtain⟨b,off,e1,e2,e3,e4⟩:=h i hi;exact⟨b,off,e1,e2,e3,cc (JF hn e4) Za e4⟩
 exact⟨λi h'=>by obtain⟨b,off,ah,ch,e1,e2,e3,e4,e5⟩:=h.o i h';have c:∀{j u},w.cell? ⟨b,j,none⟩=some u->w'.cell? ⟨b,j,none⟩=some u:=λq=>cc (JF hn e4.c0) Za q;exact⟨b,off,ah,ch,e1,e2,e3,⟨c e4.c0,c e4.c1,c e4.c2,c e4.c3,c e4.c4,c e4.c5,c e4.c6⟩,ss e5⟩,λi h'=>by obtain⟨b,off,ah,ch,e1,e2,e3,e4,e5⟩:=h.h i h';have c:∀{j u},w.cell? ⟨b,j,none⟩=some u->w'.cell? ⟨b,j,none⟩=some u:=λq=>cc (JF hn e4.c2) Za q;exact⟨b,off,ah,ch,e1,e2,e3,⟨c e4.c0,c e4.c1,c e4.c2,c e4.c3,c e4.c4,c e4.c5,c e4.c6,c e4.c7,c e4.c8⟩,ss e5⟩,λi h'=>by obtain⟨b,off,e1,e2,e3,e4⟩:=h.t i h';have c:∀{j u},w.cell? ⟨b,j,none⟩=some u->w'.cell? ⟨b,j,none⟩=some u:=λq=>cc (JF hn e4.c0) Za q;exact⟨b,off,e1,e2,e3,⟨c e4.c0,c e4.c1,c e4.c2,c e4.c3,c e4.c4⟩⟩⟩
theorem T5{w:World}{b:Nat}{A:OA}{n:Nat}{s:Nat->ByteArray}(h:AV w b (b+1) A n s)(h0:n≠0):∃j s,w.cell? ⟨b,j,none⟩=some (.s s):=by obtain⟨b',off,_,e2,e3,e4,_⟩:=h 0 Za;obtain rfl:b'=b:=Za;exact⟨_,_,e4⟩
theorem CZ.str{w:World}{x:Bk}{p:Pl}(h:CZ w x p){k:Nat}(hk:DS p x k):∃j s,w.cell? ⟨k,j,none⟩=some (.s s):=by
 rcases hk with h1|h1|h1
 .rcases h1 with⟨h0,rfl⟩|⟨i,hi,h0,rfl⟩;.obtain⟨c,r,e⟩:=h.o.row h0;exact⟨_,_,(r.cell (0*7) Za).trans (congrArg some (e 0 h0).1)⟩
  .exact T5 (h.o.hold i hi) h0
 .rcases h1 with⟨h0,rfl⟩|⟨i,hi,h0,rfl⟩;.obtain⟨c,r,e⟩:=h.h.row h0;exact⟨_,_,(r.cell (0*9+2) Za).trans (congrArg some (e 0 h0).2.2.1)⟩
  .exact T5 (h.h.hold i hi) h0
 .obtain⟨h0,rfl⟩:=h1;obtain⟨c,r,e⟩:=h.t.row h0;exact⟨_,_,(r.cell (0*5) Za).trans (congrArg some (e 0 h0).1)⟩
def YS:List Value:=[.i 0,.i 0,.i 0,.l none 0 0,.l none 0 0,.l none 0 0,.i 0]
structure Bx (w:World)(z:Nat):Prop where row:AH w z 7 (Bg YS)no:∀j s,¬w.cell? ⟨z,j,none⟩=some (.s s)
theorem Bx.grow{w w':World}{z:Nat}(h:Bx w z)(hb:Below w.1.size w w'):Bx w' z:=⟨h.row.below hb h.row.lt,λj s e=>h.no j s (by rw[<-hb.cell (p:=⟨z,j,none⟩) h.row.lt];exact e)⟩
theorem UL (w:World):Bx (w.alloc (.cells #[.i 0,.i 0,.i 0,.l none 0 0,.l none 0 0,.l none 0 0,.i 0] 37)) w.1.size:=⟨AS (l:=YS) (t:=37) BF,λj s e=>by rw[At]at e;match j,e with
  |0,e=>cases e
  |1,e=>cases e
  |2,e=>cases e
  |3,e=>cases e
  |4,e=>cases e
  |5,e=>cases e
  |6,e=>cases e
  |n+7,e=>simp at e⟩
theorem UI{w:World}{z:Nat}(v0 v1 v2 v3 v4 v5 v6:Value):AP (λq=>q=z) w (((((((w.setCell ⟨z,0,none⟩ v0).setCell ⟨z,1,none⟩ v1).setCell ⟨z,2,none⟩ v2).setCell ⟨z,3,none⟩ v3).setCell ⟨z,4,none⟩ v4).setCell ⟨z,5,none⟩ v5).setCell ⟨z,6,none⟩ v6):=(((((((AP.refl (λq=>q=z) w).setCell (p:=⟨z,0,none⟩) rfl v0).setCell (p:=⟨z,1,none⟩) rfl v1).setCell (p:=⟨z,2,none⟩) rfl v2).setCell (p:=⟨z,3,none⟩) rfl v3).setCell (p:=⟨z,4,none⟩) rfl v4).setCell (p:=⟨z,5,none⟩) rfl v5).setCell (p:=⟨z,6,none⟩) rfl v6
end Go.Proofs.YtllmmkchokkaaaaGreatDoor
