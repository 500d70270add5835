import Derived.Test.YtdknjmgdgnmhjaaGreatPk16
import Derived.Test.YtdknjmgdgnmhjaaGreatPk17
import Derived.Lib.Bytealg
set_option maxRecDepth 100000
set_option maxHeartbeats 4000000
namespace Go.Proofs.YtdknjmgdgnmhjaaGreat
open Go.RowKit Go.Proofs.Tryz
variable {w X Y:World}{k g n cap:Nat}{ad:OA}
theorem Kh{P:Program}{ops:Array Oper}{rest:List Oper}{o:Oper}{a:Act}{Q:Exit->Act->World->Prop}(hgd:o.guard=none)(s x:Operand)(t tx:TypeId)(ho:o.op=.call {callee:=.builtin .append,args:=#[s,x],argTypes:=#[t,tx]})(v xv v2:Value)(w2:World)(hs:a.eval s=v)(hx:a.eval x=xv)(hr:(Builtin.append_ #[t,tx] o.type #[v,xv]).run P w=.ok v2 w2)(h:wpList P ops Q rest (a.put o.dst v2) w2):wpList P ops Q (o::rest) a w:=by refine wpList_plain hgd λK hK=>?_;unfold Oper.wp execOp;simp only[ho,resolve,invoke,builtin,Sem.run_bind,Sem.run_pure,Ot,Qm,O8,List.map_nil,hs,hx,hr];exact hK _ _ h
def fL (v:Wt):List Value:=[.s v.k,.s v.n,.i v.t]
def Qj (x:Nat->Wr)(j:Nat):Value:=AV (wv (x (j/6))) (j%6)
def qo (x:Nat->Wt)(j:Nat):Value:=AV (fL (x (j/3))) (j%3)
def QW{α:Type}(x:Nat->α)(n:Nat)(v:α):Nat->α:=λi=>if i<n then x i else v
theorem eo (x:Nat->Wr)(n:Nat)(v:Wr)(j:Nat)(hj:j<(n+1)*6):Cp (Qj x) (n*6) (AV (wv v)) j=Qj (QW x n v) j:=by
 unfold Cp Qj QW;by_cases h:j<n*6;.rw[if_pos h,if_pos Za]
 .rw[if_neg h,if_neg Za,show j-n*6=j%6 by omega]
theorem Ac0 (x:Nat->Wt)(n:Nat)(v:Wt)(j:Nat)(hj:j<(n+1)*3):Cp (qo x) (n*3) (AV (fL v)) j=qo (QW x n v) j:=by
 unfold Cp qo QW;by_cases h:j<n*3;.rw[if_pos h,if_pos Za]
 .rw[if_neg h,if_neg Za,show j-n*3=j%3 by omega]
theorem six (h:k<6):k=0\/k=1\/k=2\/k=3\/k=4\/k=5:=Za
theorem dv (v:Wr)(k:Nat)(h:k<6):(AV (wv v) k).oneCell'=true:=by rcases six h with rfl|rfl|rfl|rfl|rfl|rfl<;>rfl
theorem dP (v:Wt)(k:Nat)(h:k<3):(AV (fL v) k).oneCell'=true:=by rcases(show k=0\/k=1\/k=2 by omega)with rfl|rfl|rfl<;>rfl
theorem Rw.wrs{x:Nat->Wr}(h:Rw w ad g n cap 6 (Qj x)):Pu w 0 w.1.size ad n x:=λi hi=>by
 obtain⟨ha,hr⟩:=h.rowF Za;have e:∀k,k<6->w.cell? ⟨g,0+i*6+k,none⟩=some (AV (wv (x i)) k):=λk hk=>by rw[show 0+i*6+k=i*6+k by omega,hr.cell _ Za];unfold Qj;rw[show(i*6+k)/6=i by omega,show(i*6+k)%6=k by omega]
 exact⟨g,0,ha,Ar _,hr.lt,e 0 Za,e 1 Za,e 2 Za,e 3 Za,e 4 Za,e 5 Za⟩
theorem Rw.wts{x:Nat->Wt}(h:Rw w ad g n cap 3 (qo x)):PF w 0 w.1.size ad n x:=λi hi=>by
 obtain⟨ha,hr⟩:=h.rowF Za;have e:∀k,k<3->w.cell? ⟨g,0+i*3+k,none⟩=some (AV (fL (x i)) k):=λk hk=>by rw[show 0+i*3+k=i*3+k by omega,hr.cell _ Za];unfold qo;rw[show(i*3+k)/3=i by omega,show(i*3+k)%3=k by omega]
 exact⟨g,0,ha,Ar _,hr.lt,e 0 Za,e 1 Za,e 2 Za⟩
structure SZ (X:World)(g N:Nat):Prop where
 pi:∀j v,X.cell? ⟨g,j,none⟩=some v->(j%6=0\/j%6=3)->∃i,v=.i i
 ps:∀j v,X.cell? ⟨g,j,none⟩=some v->¬(j%6=0\/j%6=3)->∃s,v=.s s
 z:∀j s,N<=j->X.cell? ⟨g,j,none⟩=some (.s s)->s=⟨#[]⟩
theorem SZ.fr{N:Nat}{P:Nat->Prop}(h:SZ X g N)(hf:AB P X Y)(hp:¬P g)(hl:g<X.1.size):SZ Y g N:=by have e:∀j,Y.cell? ⟨g,j,none⟩=X.cell? ⟨g,j,none⟩:=λj=>hf.cell (p:=⟨g,j,none⟩) hl hp;exact⟨λj v hv=>h.pi j v ((e j).symm.trans hv),λj v hv=>h.ps j v ((e j).symm.trans hv),λj s hj hv=>h.z j s hj ((e j).symm.trans hv)⟩
theorem II:prog.underlying 116=some (.slice 76):=Zc
theorem Tc:prog.underlying 115=some (.slice 146):=Zc
theorem PO:(prog.info? 76).map (λi=>(i.zero,i.size,i.bytes))=some (some (.agg #[.i 0,.s ByteArray.empty,.s ByteArray.empty,.i 0,.s ByteArray.empty,.s ByteArray.empty]),6,80):=Zc
theorem Yt:(prog.info? 146).map (λi=>(i.zero,i.size,i.bytes))=some (some (.agg #[.s ByteArray.empty,.s ByteArray.empty,.i 0]),3,40):=Zc
theorem zc6 (m j:Nat)(v:Value)(h:(Builtin.zeroCells (Value.agg #[.i 0,.s ByteArray.empty,.s ByteArray.empty,.i 0,.s ByteArray.empty,.s ByteArray.empty]).cells m)[j]?=some v):v=AV (wv ⟨0,⟨#[]⟩,⟨#[]⟩,0,⟨#[]⟩,⟨#[]⟩⟩) (j%6):=by unfold Builtin.zeroCells at h;rw[Array.getElem?_map]at h;have hc:(Value.agg #[.i 0,.s ByteArray.empty,.s ByteArray.empty,.i 0,.s ByteArray.empty,.s ByteArray.empty]).cells=#[.i 0,.s ByteArray.empty,.s ByteArray.empty,.i 0,.s ByteArray.empty,.s ByteArray.empty]:=Zc;rw[hc]at h;obtain⟨a,ha,hv⟩:=Option.map_eq_some_iff.1 h;obtain⟨hl,ha⟩:=AM.1 ha;rw[Array.getElem_range]at ha;subst ha;rw[<-hv];rcases six (GX j (by omega:0<6))with e|e|e|e|e|e;all_goals(show(#[Value.int .i64 0,.s ByteArray.empty,.s ByteArray.empty,.i 0,.s ByteArray.empty,.s ByteArray.empty]:Array Value)[j%6]! =_;rw[e];rfl)
theorem Vc (v:Wr)(k:Nat)(h:k<6):((k=0\/k=3)->∃i,AV (wv v) k=.i i)/\(¬(k=0\/k=3)->∃s,AV (wv v) k=.s s):=by
 rcases six h with rfl|rfl|rfl|rfl|rfl|rfl;.exact⟨λ_=>⟨_,rfl⟩,λh=>absurd (AA rfl) h⟩
 .exact cL
 .exact cL
 .exact⟨λ_=>⟨_,rfl⟩,λh=>absurd (Az rfl) h⟩
 .exact cL
 .exact cL
theorem pb{s:ByteArray}(h:k<6)(e:AV (wv ⟨0,⟨#[]⟩,⟨#[]⟩,0,⟨#[]⟩,⟨#[]⟩⟩) k=.s s):s=⟨#[]⟩:=by rcases six h with rfl|rfl|rfl|rfl|rfl|rfl;all_goals(first|(injection e with e;exact e.symm)|cases e)
theorem iP (w:World)(ty:TypeId)(ad:OA)(g n cap:Nat)(x:Nat->Wr)(v:Wr)(h:Rw w ad g n cap 6 (Qj x))(hp:0<cap->SZ w g (n*6))(lo2 hi2:Nat)(CY:OA)(cap2:Nat)(hd:Cr w lo2 hi2 CY (1*6) (AV (wv v)))(hn:n<=1000):∃ad' cap' g' w',(Builtin.append_ #[116,116] ty #[.l ad n cap,.l CY 1 cap2]).run prog w=.ok (.l ad' (n+1) cap') w'/\Rw w' ad' g' (n+1) cap' 6 (Qj (QW x n v))/\SZ w' g' ((n+1)*6)/\AB (λq=>0<cap/\q=g) w w'/\(0<cap->∀j,j<n*6->w'.cell? ⟨g,j,none⟩=w.cell? ⟨g,j,none⟩)/\((0<cap/\g'=g)\/w.1.size<=g'):=by
 by_cases Tg:n+1<=cap
 .have Nr:0<cap:=Za;have rm:=h.room Nr;have FO:=h.addr Nr;subst FO;obtain⟨i0,Fq,GH,C7,Fk⟩:=info_parts PO;have CZ:=run_append_room_src (P:=prog) w 116 116 ty 76 i0 II Fq g 0 n cap (.l CY 1 cap2) 1 (AN (1*6) (AV (wv v))) (by rw[C7];exact hd.src Za II) Tg (λj hj=>by rw[Bq]at hj;obtain⟨u,hu⟩:=rm.has (n*6+j) Za;rw[C7,show 0+n*6+j=n*6+j by omega,hu];rfl) (λj hj=>rm.free _);rw[C7,show 0+n*6=n*6 by omega]at CZ;have Cs:∀j,j<1*6->(w.setCells g (n*6) (AN (1*6) (AV (wv v)))).cell? ⟨g,n*6+j,none⟩=some (AV (wv v) j):=λj hj=>by have:=DA g (AN (1*6) (AV (wv v))) (n*6) w (λj hj=>by rw[Bq]at hj;obtain⟨u,hu⟩:=rm.has (n*6+j) Za;rw[hu];rfl) j Zbq;rw[Dr]at this;exact this
  have Kq:∀j,(j<n*6\/n*6+1*6<=j)->(w.setCells g (n*6) (AN (1*6) (AV (wv v)))).cell? ⟨g,j,none⟩=w.cell? ⟨g,j,none⟩:=λj hj=>CQ g _ (n*6) w ⟨g,j,none⟩ (λ_ _=>by rw[Bq];rcases hj with hj|hj;exact AA hj;exact Az hj);have hpa:=hp Nr;refine⟨_,_,g,_,CZ,⟨λ_=>rfl,Tg,λ_=>⟨λj hj=>?_,λj=>by rw[DL];exact rm.free _,by rw[FC];exact rm.lt⟩,λj hj=>?_⟩,⟨λj u hu hj=>?_,λj u hu hj=>?_,λj s hj hs=>?_⟩,O6 (Gf g _ (n*6) w) (λk h1 h2=>⟨Nr,Za⟩),λ_ j hj=>Kq j (AA hj),AA ⟨Nr,rfl⟩⟩
  .by_cases Qq:j<n*6\/n*6+1*6<=j;.rw[Kq j Qq];exact rm.has j hj
   .obtain⟨q,rfl⟩:∃q,j=n*6+q:=⟨j-n*6,Za⟩;exact⟨_,Cs q Za⟩
  .rw[<-eo x n v j hj];unfold Cp;by_cases Qq:j<n*6;.rw[if_pos Qq,Kq j (AA Qq)];exact h.cell j Qq
   .obtain⟨q,rfl⟩:∃q,j=n*6+q:=⟨j-n*6,Za⟩;rw[if_neg Qq,Cs q Za,Ez]
  .by_cases Qq:j<n*6\/n*6+1*6<=j;.exact hpa.pi j u ((Kq j Qq).symm.trans hu) hj
   .obtain⟨q,rfl⟩:∃q,j=n*6+q:=⟨j-n*6,Za⟩;rw[Cs q Za]at hu;injection hu with hu;obtain⟨i,hi⟩:=(Vc v q Za).1 Za;exact⟨i,hu.symm.trans hi⟩
  .by_cases Qq:j<n*6\/n*6+1*6<=j;.exact hpa.ps j u ((Kq j Qq).symm.trans hu) hj
   .obtain⟨q,rfl⟩:∃q,j=n*6+q:=⟨j-n*6,Za⟩;rw[Cs q Za]at hu;injection hu with hu;obtain⟨i,hi⟩:=(Vc v q Za).2 Za;exact⟨i,hu.symm.trans hi⟩
  .rw[Kq j (Az Za)]at hs;exact hpa.z j s Za hs
 .obtain⟨i0,Fq,GH,C7,Fk⟩:=info_parts PO;have hc:Cr w g (g+1) ad (n*6) (Qj x):=h.src (λj _=>by unfold Qj;exact dv _ _ (GX _ Za));have CZ:=run_append_grow_src (P:=prog) w 116 116 ty 76 i0 _ II Fq GH ad n cap (AN (n*6) (Qj x)) (by rw[C7];exact hc.drew.cells Za) (.l CY 1 cap2) 1 (AN (1*6) (AV (wv v))) (by rw[C7];exact hd.src Za II) Za Za (growslice_fits Za Zcv);rw[NY]at CZ;have hcg:=grownCap_ge w (n+1) cap 76;generalize grownCap w (n+1) cap 76=cg at CZ hcg;generalize hZ:(Value.agg #[.i 0,.s ByteArray.empty,.s ByteArray.empty,.i 0,.s ByteArray.empty,.s ByteArray.empty]).cells=Z at CZ;have hZs:Z.size=6:=by rw[<-hZ];kernel_rfl
  have Jh:∀j,(w.drew.alloc (.cells ((AN (n*6+1*6) (Cp (Qj x) (n*6) (AV (wv v)))).toArray++Builtin.zeroCells Z (cg-(n+1))) 76)).cell? ⟨w.1.size,j,none⟩=((AN (n*6+1*6) (Cp (Qj x) (n*6) (AV (wv v)))).toArray++Builtin.zeroCells Z (cg-(n+1)))[j]?:=λj=>by have:=Al w.drew ((AN (n*6+1*6) (Cp (Qj x) (n*6) (AV (wv v)))).toArray++Builtin.zeroCells Z (cg-(n+1))) 76 j;rw[show w.drew.1.size=w.1.size from rfl]at this;exact this
  have Gc:∀j,j<(n+1)*6->((AN (n*6+1*6) (Cp (Qj x) (n*6) (AV (wv v)))).toArray++Builtin.zeroCells Z (cg-(n+1)))[j]?=some (Qj (QW x n v) j):=λj hj=>by rw[Array.getElem?_append_left (by simp[Bq];omega),Ah,CR (by rw[Bq];omega),Dr,eo x n v j hj]
  have CD:∀j u,(n+1)*6<=j->((AN (n*6+1*6) (Cp (Qj x) (n*6) (AV (wv v)))).toArray++Builtin.zeroCells Z (cg-(n+1)))[j]?=some u->u=AV (wv ⟨0,⟨#[]⟩,⟨#[]⟩,0,⟨#[]⟩,⟨#[]⟩⟩) (j%6):=λj u hj hu=>by rw[Array.getElem?_append_right (by simp[Bq];omega),C4,Bq,<-hZ]at hu;rw[zc6 _ _ _ hu,show(j-(n*6+1*6))%6=j%6 by omega]
  have VH:∀j,(w.drew.alloc (.cells ((AN (n*6+1*6) (Cp (Qj x) (n*6) (AV (wv v)))).toArray++Builtin.zeroCells Z (cg-(n+1))) 76)).frozen? ⟨w.1.size,j,none⟩=false:=λj=>by have:=World.frozen?_alloc_mark w.drew ((AN (n*6+1*6) (Cp (Qj x) (n*6) (AV (wv v)))).toArray++Builtin.zeroCells Z (cg-(n+1))) 76 0 0 j;rw[show w.drew.1.size=w.1.size from rfl]at this;simpa using this
  have hb':Below w.1.size w (w.drew.alloc (.cells ((AN (n*6+1*6) (Cp (Qj x) (n*6) (AV (wv v)))).toArray++Builtin.zeroCells Z (cg-(n+1))) 76)):=((Ap _ _).drew).alloc A9 _;have Wu:w.1.size<(w.drew.alloc (.cells ((AN (n*6+1*6) (Cp (Qj x) (n*6) (AV (wv v)))).toArray++Builtin.zeroCells Z (cg-(n+1))) 76)).1.size:=by rw[Av];exact BE _
  have Aew:∀j u,((AN (n*6+1*6) (Cp (Qj x) (n*6) (AV (wv v)))).toArray++Builtin.zeroCells Z (cg-(n+1)))[j]?=some u->∃y:Wr,u=AV (wv y) (j%6):=λj u hu=>by
   by_cases hj:j<(n+1)*6;.rw[Gc j hj]at hu;injection hu with hu;exact⟨_,hu.symm⟩
   .exact⟨_,CD j u Za hu⟩
  have JP:((AN (n*6+1*6) (Cp (Qj x) (n*6) (AV (wv v)))).toArray++Builtin.zeroCells Z (cg-(n+1))).size=cg*6:=by rw[Array.size_append,size_zeroCells,hZs,C4,Bq];omega
  refine⟨_,cg,w.1.size,_,CZ,⟨λ_=>rfl,hcg,λ_=>⟨λj hj=>?_,VH,Wu⟩,λj hj=>?_⟩,⟨λj u hu hj=>?_,λj u hu hj=>?_,λj s hj hs=>?_⟩,Aj hb',λNr j hj=>hb'.cell (p:=⟨g,j,none⟩) (h.room Nr).lt,Az A9⟩;.rw[Jh,FL Za];exact⟨_,rfl⟩
  .rw[Jh];exact Gc j hj
  .rw[Jh]at hu;obtain⟨y,rfl⟩:=Aew j u hu;exact(Vc y _ (GX _ Za)).1 hj
  .rw[Jh]at hu;obtain⟨y,rfl⟩:=Aew j u hu;exact(Vc y _ (GX _ Za)).2 hj
  .rw[Jh]at hs;exact pb (GX j Za) (CD j _ hj hs).symm
theorem Afp{x:Ob}{now:Int}(h:Bv x now=true){i:Nat}(hi:i<x.hn):¬x.hs i=⟨#[]⟩:=λe=>by simp only[Bv,D7,As]at h;have:=OR h.2.2.2.2.2.2 i hi;rw[e]at this;exact absurd this Zb
theorem sr{B:Bk}{hi:Nat}{a1 a2 a3:OA}(hv:VB B)(Cs:BL X 0 hi B a1 a2 a3)(hh:hi<=X.1.size)(hf:AB (λq=>q=g) X Y)(hp:SZ X g n)(hk:∀j,j<n->Y.cell? ⟨g,j,none⟩=X.cell? ⟨g,j,none⟩):BL Y 0 hi B a1 a2 a3:=by
 have nb:∀j b,¬X.cell? ⟨g,j,none⟩=some (.bool b):=λj b e=>by
  by_cases hj:j%6=0\/j%6=3;.obtain⟨i,h⟩:=hp.pi j _ e hj;cases h
  .obtain⟨i,h⟩:=hp.ps j _ e hj;cases h
 have ob:∀b,b<X.1.size->¬b=g->∀j,Y.cell? ⟨b,j,none⟩=X.cell? ⟨b,j,none⟩:=λb h1 h2 j=>hf.cell (p:=⟨b,j,none⟩) h1 h2;have st:∀(x:Ob)(now:Int)(ah:OA),Bv x now=true->AK X 0 hi ah x.hn x.hs->AK Y 0 hi ah x.hn x.hs:=λx now ah hx hs i hi'=>by
  obtain⟨b,off,e1,e2,e3,e4⟩:=hs i hi';refine⟨b,off,e1,e2,e3,?_⟩;by_cases hb:b=g
  .subst hb;by_cases hj:off+i<n;.exact(hk _ hj).trans e4
   .exact absurd (hp.z _ _ Za e4) (Afp hx hi')
  .exact(ob b Za hb _).trans e4
 refine⟨λi hi'=>?_,λi hi'=>?_,λi hi'=>?_⟩
 .obtain⟨b,off,ah,ch,e1,e2,e3,e4,e5⟩:=Cs.o i hi';have e:=ob b Za (λq=>nb _ _ (q▸e4.c5));exact⟨b,off,ah,ch,e1,e2,e3,⟨(e _).trans e4.c0,(e _).trans e4.c1,(e _).trans e4.c2,(e _).trans e4.c3,(e _).trans e4.c4,(e _).trans e4.c5,(e _).trans e4.c6⟩,st _ _ _ (hv.fit i hi').1 e5⟩
 .obtain⟨b,off,ah,ch,e1,e2,e3,e4,e5⟩:=Cs.h i hi';have e:=ob b Za (λq=>nb _ _ (q▸e4.c1));have hc:=hv.chg i hi';simp only[GS,As]at hc;exact⟨b,off,ah,ch,e1,e2,e3,⟨(e _).trans e4.c0,(e _).trans e4.c1,(e _).trans e4.c2,(e _).trans e4.c3,(e _).trans e4.c4,(e _).trans e4.c5,(e _).trans e4.c6,(e _).trans e4.c7,(e _).trans e4.c8⟩,st _ _ _ hc.2.1 e5⟩
 .obtain⟨b,off,e1,e2,e3,e4⟩:=Cs.t i hi';have hb:¬b=g:=λq=>by
   subst q;by_cases h3:(off+i*5+3)%6=0\/(off+i*5+3)%6=3;.obtain⟨s,h⟩:=hp.ps _ _ e4.c4 Za;cases h
   .obtain⟨s,h⟩:=hp.ps _ _ e4.c3 h3;cases h
  have e:=ob b Za hb;exact⟨b,off,e1,e2,e3,⟨(e _).trans e4.c0,(e _).trans e4.c1,(e _).trans e4.c2,(e _).trans e4.c3,(e _).trans e4.c4⟩⟩
def oy (R:Nat)(S hi:Nat)(B:Bk)(a1:OA)(c1:Nat)(W:World)(i:Nat)(v:Value)(X:World):Prop:=match i with
 |0=>v=.p S 2
 |1=>v=.l a1 B.on c1
 |2=>v=.p R 0
 |3=>v=.p S 2
 |4=>v=.l a1 B.on c1
 |5=>v=.i (B.on:Nat)
 |6=>∃k:Nat,k<B.on/\v=.i k
 |7=>∃k b off:Nat,k<B.on/\a1=some ⟨b,off,none⟩/\v=.pointer (some ⟨b,off+k*7,none⟩)
 |8=>∃(k:Nat)(ah:OA)(ch:Nat),k<B.on/\v=.agg (vO (B.os k) ah ch)/\AK W 0 hi ah (B.os k).hn (B.os k).hs
 |9=>∃z:Nat,v=.p z 0/\W.1.size<=z/\AE X z 7 (AV [.s ⟨#[]⟩,.s ⟨#[]⟩,.i 0,.i 0,.s ⟨#[]⟩,.bool false,.l none 0 0])
 |_=>True
theorem Ab1{p1 p2 p4 p5 p6 p7 p9 Ea Ee Em D1 DW DN DU DX DO DP DV DT D9 Ef EJ Ej El Ei Ed Eh Ek Ey Ev Ew Ex EM EH EI EV Er EK EL F9 FY F8 Ga FM Fz Fy FN Fv Gy Gx GO GI GQ Gw Gv Fu G9 Ha Hf Hd Hb Hc GL GK Hg In Ik Im Hj He G8 Hi Hh Ie J8 Jr Jp Lj Lh Lf J9 Kc KL KJ KM KN KI LJ FE:Value}{mk:(Nat->Value)->Array Value}(t0:Nat->Value)(R:Nat)(ad:OA)(nn cap p:Nat)(S hi:Nat)(B:Bk)(a1:OA)(c1:Nat)(W:World)(hr:Rd W R ad nn cap p)(hp:p<=900000)(hS:S<W.1.size)(hSR:¬S=R)(lE:W.cell? ⟨S,2,none⟩=some (.slice a1 B.on c1))(ho:Bh W 0 hi a1 B.on B.os)(CD:hi<=W.1.size)(LU:0<B.on)(Mz:B.on<=100)(Dg:mk=λt=>#[.p R 0,p1,p2,.p S 0,p4,p5,p6,p7,t 9,p9,Ea,Ee,Em,D1,DW,DN,DU,DX,DO,DP,DV,DT,D9,Ef,EJ,Ej,El,Ei,Ed,Eh,Ek,Ey,Ev,Ew,Ex,EM,EH,EI,EV,Er,t 0,t 1,t 2,t 3,t 4,t 5,t 6,t 7,t 8,EK,EL,F9,FY,F8,Ga,FM,Fz,Fy,FN,Fv,Gy,Gx,GO,GI,GQ,Gw,Gv,Fu,G9,Ha,Hf,Hd,Hb,Hc,GL,GK,Hg,In,Ik,Im,Hj,He,G8,Hi,Hh,Ie,J8,Jr,Jp,Lj,Lh,Lf,J9,Kc,KL,KJ,KM,KN,KI,LJ,FE])(Q:Exit->Act->World->Prop)(hQ:∀(t:Nat->Value)(z k:Nat)(ah:OA)(ch:Nat)(pz:Nat) X,t 9=.p z 0->W.1.size<=z->k<B.on->AK W 0 hi ah (B.os k).hn (B.os k).hs->AE X z 7 (AV (Qz (B.os k) ah ch))->AB (λq=>q=R) W X->p<=pz->pz<=p+10->Rd X R ad nn cap pz->Q .normal ⟨mk t,[]⟩ X):Code.wp prog (rg Tryz.f56 7) Q ⟨mk t0,[]⟩ W:=by
 have Le:=hr.lt;refine QC Zc 10 mk t0 R ad nn cap p (oy R S hi B a1 c1 W) (λa X=>∃(t:Nat->Value)(z k:Nat)(ah:OA)(ch:Nat)(pz:Nat),a=⟨mk t,[]⟩/\t 9=.p z 0/\W.1.size<=z/\k<B.on/\AK W 0 hi ah (B.os k).hn (B.os k).hs/\AE X z 7 (AV (Qz (B.os k) ah ch))/\AB (λq=>q=R) W X/\p<=pz/\pz<=p+10/\Rd X R ad nn cap pz) Zc Zc Zc ?_ rfl hr ?_ ?_ ?_;all_goals subst Dg
 .exact ye
 .exact Af1
 .exact Af6
 .exact X_
def Eb (B:Bk)(cl:ByteArray):Nat:=Gu (λi=>(B.ts i).c) cl B.tn
def Jz (B:Bk)(cl:ByteArray):Bool:=decide (Eb B cl<B.tn)&&decide ((B.ts (Eb B cl)).c=cl)
end Go.Proofs.YtdknjmgdgnmhjaaGreat
