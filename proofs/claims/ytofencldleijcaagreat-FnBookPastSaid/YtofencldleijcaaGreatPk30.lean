import Derived.Test.YtofencldleijcaaGreatPk28
import Derived.Test.YtofencldleijcaaGreatPk20
import Derived.Test.YtofencldleijcaaGreatPk29
import Derived.Test.YtofencldleijcaaGreatPk27
import Derived.Test.YtofencldleijcaaGreatPk11
import Derived.Test.YtofencldleijcaaGreatPk16
import Derived.Lib.Bytealg
set_option maxRecDepth 100000
set_option maxHeartbeats 4000000
namespace Go.Proofs.YtofencldleijcaaGreat
open Go.RowKit Go.Proofs.Tryz
theorem EG{P:Program}{ops:Array Oper}{rest:List Oper}{o:Oper}{a:Act}{w:World}{Q:Exit->Act->World->Prop}(hgd:o.guard=none)(s x:Operand)(t tx:TypeId)(ho:o.op=.call {callee:=.builtin .append,args:=#[s,x],argTypes:=#[t,tx]})(v xv v2:Value)(w2:World)(hs:a.eval s=v)(hx:a.eval x=xv)(hr:(Builtin.append_ #[t,tx] o.type #[v,xv]).run P w=.ok v2 w2)(h:wpList P ops Q rest (a.put o.dst v2) w2):wpList P ops Q (o::rest) a w:=by refine wpList_plain hgd λK hK=>?_;unfold Oper.wp execOp;simp only[ho,resolve,invoke,builtin,Sem.run_bind,IV,Lw,ME,List.map_cons,List.map_nil,hs,hx,hr];exact hK _ _ h
def TE (v:Wt):List Value:=[.s v.kind,.s v.name,.i v.ver]
def LH (x:Nat->Wr)(j:Nat):Value:=A7 (wv (x (j/6))) (j%6)
def bD (x:Nat->Wt)(j:Nat):Value:=A7 (TE (x (j/3))) (j%3)
def KP{α:Type}(x:Nat->α)(n:Nat)(v:α):Nat->α:=λi=>if i<n then x i else v
theorem Yf (x:Nat->Wr)(n:Nat)(v:Wr)(j:Nat)(hj:j<(n+1)*6):Cd (LH x) (n*6) (A7 (wv v)) j=LH (KP x n v) j:=by
 unfold Cd LH KP;by_cases h:j<n*6;.rw[if_pos h,if_pos Zb]
 .rw[if_neg h,if_neg Zb,show j-n*6=j%6 by omega]
theorem fH (x:Nat->Wt)(n:Nat)(v:Wt)(j:Nat)(hj:j<(n+1)*3):Cd (bD x) (n*3) (A7 (TE v)) j=bD (KP x n v) j:=by
 unfold Cd bD KP;by_cases h:j<n*3;.rw[if_pos h,if_pos Zb]
 .rw[if_neg h,if_neg Zb,show j-n*3=j%3 by omega]
theorem kS{k:Nat}(h:k<6):k=0\/k=1\/k=2\/k=3\/k=4\/k=5:=Zb
theorem Th (v:Wr)(k:Nat)(h:k<6):(A7 (wv v) k).oneCell'=true:=by rcases kS h with rfl|rfl|rfl|rfl|rfl|rfl<;>rfl
theorem T9 (v:Wt)(k:Nat)(h:k<3):(A7 (TE v) k).oneCell'=true:=by rcases(show k=0\/k=1\/k=2 by omega)with rfl|rfl|rfl<;>rfl
theorem Rw.wrs{w:World}{ad:OA}{g n cap:Nat}{x:Nat->Wr}(h:Rw w ad g n cap 6 (LH x)):GA w 0 w.1.size ad n x:=λi hi=>by
 obtain⟨ha,hr⟩:=h.rowF Zb;have e:∀k,k<6->w.cell? ⟨g,0+i*6+k,none⟩=some (A7 (wv (x i)) k):=λk hk=>by rw[show 0+i*6+k=i*6+k by omega,hr.cell _ Zb];unfold LH;rw[show(i*6+k)/6=i by omega,show(i*6+k)%6=k by omega]
 exact⟨g,0,ha,Aw _,hr.lt,e 0 Zb,e 1 Zb,e 2 Zb,e 3 Zb,e 4 Zb,e 5 Zb⟩
theorem Rw.wts{w:World}{ad:OA}{g n cap:Nat}{x:Nat->Wt}(h:Rw w ad g n cap 3 (bD x)):Mk w 0 w.1.size ad n x:=λi hi=>by
 obtain⟨ha,hr⟩:=h.rowF Zb;have e:∀k,k<3->w.cell? ⟨g,0+i*3+k,none⟩=some (A7 (TE (x i)) k):=λk hk=>by rw[show 0+i*3+k=i*3+k by omega,hr.cell _ Zb];unfold bD;rw[show(i*3+k)/3=i by omega,show(i*3+k)%3=k by omega]
 exact⟨g,0,ha,Aw _,hr.lt,e 0 Zb,e 1 Zb,e 2 Zb⟩
structure Mq (X:World)(g N:Nat):Prop where
 pi:∀j v,X.cell? ⟨g,j,none⟩=some v->(j%6=0\/j%6=3)->∃i,v=.i i
 ps:∀j v,X.cell? ⟨g,j,none⟩=some v->¬(j%6=0\/j%6=3)->∃s,v=.s s
 z:∀j s,N<=j->X.cell? ⟨g,j,none⟩=some (.s s)->s=⟨#[]⟩
theorem Mq.fr{X Y:World}{g N:Nat}{P:Nat->Prop}(h:Mq X g N)(hf:AB P X Y)(hp:¬P g)(hl:g<X.1.size):Mq Y g N:=by have e:∀j,Y.cell? ⟨g,j,none⟩=X.cell? ⟨g,j,none⟩:=λj=>hf.cell (p:=⟨g,j,none⟩) hl hp;exact⟨λj v hv=>h.pi j v ((e j).symm.trans hv),λj v hv=>h.ps j v ((e j).symm.trans hv),λj s hj hv=>h.z j s hj ((e j).symm.trans hv)⟩
theorem Gs:prog.underlying 28=some (.slice 36):=Ze
theorem OG:prog.underlying 86=some (.slice 120):=Ze
theorem Mn:(prog.info? 36).map (λi=>(i.zero,i.size,i.bytes))=some (some (.agg #[.i 0,.s ByteArray.empty,.s ByteArray.empty,.i 0,.s ByteArray.empty,.s ByteArray.empty]),6,80):=Ze
theorem RM:(prog.info? 120).map (λi=>(i.zero,i.size,i.bytes))=some (some (.agg #[.s ByteArray.empty,.s ByteArray.empty,.i 0]),3,40):=Ze
theorem rS (m j:Nat)(v:Value)(h:(Builtin.zeroCells (Value.agg #[.i 0,.s ByteArray.empty,.s ByteArray.empty,.i 0,.s ByteArray.empty,.s ByteArray.empty]).cells m)[j]?=some v):v=A7 (wv ⟨0,⟨#[]⟩,⟨#[]⟩,0,⟨#[]⟩,⟨#[]⟩⟩) (j%6):=by unfold Builtin.zeroCells at h;rw[Array.getElem?_map]at h;have hc:(Value.agg #[.i 0,.s ByteArray.empty,.s ByteArray.empty,.i 0,.s ByteArray.empty,.s ByteArray.empty]).cells=#[.i 0,.s ByteArray.empty,.s ByteArray.empty,.i 0,.s ByteArray.empty,.s ByteArray.empty]:=Ze;rw[hc]at h;obtain⟨a,ha,hv⟩:=Option.map_eq_some_iff.1 h;obtain⟨hl,ha⟩:=AS.1 ha;rw[Array.getElem_range]at ha;subst ha;rw[<-hv];rcases kS (Gl j (by omega:0<6))with e|e|e|e|e|e;all_goals(show(#[Value.int .i64 0,.s ByteArray.empty,.s ByteArray.empty,.i 0,.s ByteArray.empty,.s ByteArray.empty]:Array Value)[j%6]! =_;rw[e];rfl)
theorem PY (v:Wr)(k:Nat)(h:k<6):((k=0\/k=3)->∃i,A7 (wv v) k=.i i)/\(¬(k=0\/k=3)->∃s,A7 (wv v) k=.s s):=by
 rcases kS h with rfl|rfl|rfl|rfl|rfl|rfl;.exact⟨λ_=>⟨_,rfl⟩,λh=>absurd (AO rfl) h⟩
 .exact⟨λh=>Zb,λ_=>⟨_,rfl⟩⟩
 .exact⟨λh=>Zb,λ_=>⟨_,rfl⟩⟩
 .exact⟨λ_=>⟨_,rfl⟩,λh=>absurd (AD rfl) h⟩
 .exact⟨λh=>Zb,λ_=>⟨_,rfl⟩⟩
 .exact⟨λh=>Zb,λ_=>⟨_,rfl⟩⟩
theorem aH{k:Nat}{s:ByteArray}(h:k<6)(e:A7 (wv ⟨0,⟨#[]⟩,⟨#[]⟩,0,⟨#[]⟩,⟨#[]⟩⟩) k=.s s):s=⟨#[]⟩:=by rcases kS h with rfl|rfl|rfl|rfl|rfl|rfl;all_goals(first|(injection e with e;exact e.symm)|cases e)
theorem OQ (w:World)(ty:TypeId)(ad:OA)(g n cap:Nat)(x:Nat->Wr)(v:Wr)(h:Rw w ad g n cap 6 (LH x))(hp:0<cap->Mq w g (n*6))(lo2 hi2:Nat)(ad2:OA)(cap2:Nat)(hd:BR w lo2 hi2 ad2 (1*6) (A7 (wv v)))(hn:n<=1000):∃ad' cap' g' w',(Builtin.append_ #[28,28] ty #[.l ad n cap,.l ad2 1 cap2]).run prog w=.ok (.l ad' (n+1) cap') w'/\Rw w' ad' g' (n+1) cap' 6 (LH (KP x n v))/\Mq w' g' ((n+1)*6)/\AB (λq=>0<cap/\q=g) w w'/\(0<cap->∀j,j<n*6->w'.cell? ⟨g,j,none⟩=w.cell? ⟨g,j,none⟩)/\((0<cap/\g'=g)\/w.1.size<=g'):=by
 by_cases hroom:n+1<=cap
 .have hc0:0<cap:=Zb;have rm:=h.room hc0;have had:=h.addr hc0;subst had;obtain⟨i0,hi0,hz0,hz1,hz2⟩:=info_parts Mn;have hrun:=run_append_room_src (P:=prog) w 28 28 ty 36 i0 Gs hi0 g 0 n cap (.l ad2 1 cap2) 1 (Ay (1*6) (A7 (wv v))) (by rw[hz1];exact hd.src Zb Gs) hroom (λj hj=>by rw[AK]at hj;obtain⟨u,hu⟩:=rm.has (n*6+j) Zb;rw[hz1,show 0+n*6+j=n*6+j by omega,hu];rfl) (λj hj=>rm.free _);rw[hz1,show 0+n*6=n*6 by omega]at hrun;have hin:∀j,j<1*6->(w.setCells g (n*6) (Ay (1*6) (A7 (wv v)))).cell? ⟨g,n*6+j,none⟩=some (A7 (wv v) j):=λj hj=>by have:=DX g (Ay (1*6) (A7 (wv v))) (n*6) w (λj hj=>by rw[AK]at hj;obtain⟨u,hu⟩:=rm.has (n*6+j) Zb;rw[hu];rfl) j (by rw[AK];exact hj);rw[CF]at this;exact this
  have hout:∀j,(j<n*6\/n*6+1*6<=j)->(w.setCells g (n*6) (Ay (1*6) (A7 (wv v)))).cell? ⟨g,j,none⟩=w.cell? ⟨g,j,none⟩:=λj hj=>ET g _ (n*6) w ⟨g,j,none⟩ (λ_ _=>by rw[AK];rcases hj with hj|hj;exact AO hj;exact AD hj);have hpa:=hp hc0;refine⟨_,_,g,_,hrun,⟨λ_=>rfl,hroom,λ_=>⟨λj hj=>?_,λj=>by rw[Fq];exact rm.free _,by rw[Ey];exact rm.lt⟩,λj hj=>?_⟩,⟨λj u hu hj=>?_,λj u hu hj=>?_,λj s hj hs=>?_⟩,LY (Fv g _ (n*6) w) (λk h1 h2=>⟨hc0,Zb⟩),λ_ j hj=>hout j (AO hj),AO ⟨hc0,rfl⟩⟩
  .by_cases hj1:j<n*6\/n*6+1*6<=j;.rw[hout j hj1];exact rm.has j hj
   .obtain⟨q,rfl⟩:∃q,j=n*6+q:=⟨j-n*6,Zb⟩;exact⟨_,hin q Zb⟩
  .rw[<-Yf x n v j hj];unfold Cd;by_cases hj1:j<n*6;.rw[if_pos hj1,hout j (AO hj1)];exact h.cell j hj1
   .obtain⟨q,rfl⟩:∃q,j=n*6+q:=⟨j-n*6,Zb⟩;rw[if_neg hj1,hin q Zb,DY]
  .by_cases hj1:j<n*6\/n*6+1*6<=j;.exact hpa.pi j u ((hout j hj1).symm.trans hu) hj
   .obtain⟨q,rfl⟩:∃q,j=n*6+q:=⟨j-n*6,Zb⟩;rw[hin q Zb]at hu;injection hu with hu;obtain⟨i,hi⟩:=(PY v q Zb).1 Zb;exact⟨i,hu.symm.trans hi⟩
  .by_cases hj1:j<n*6\/n*6+1*6<=j;.exact hpa.ps j u ((hout j hj1).symm.trans hu) hj
   .obtain⟨q,rfl⟩:∃q,j=n*6+q:=⟨j-n*6,Zb⟩;rw[hin q Zb]at hu;injection hu with hu;obtain⟨i,hi⟩:=(PY v q Zb).2 Zb;exact⟨i,hu.symm.trans hi⟩
  .rw[hout j (AD Zb)]at hs;exact hpa.z j s Zb hs
 .obtain⟨i0,hi0,hz0,hz1,hz2⟩:=info_parts Mn;have hc:BR w g (g+1) ad (n*6) (LH x):=h.src (λj _=>by unfold LH;exact Th _ _ (Gl _ Zb));have hrun:=run_append_grow_src (P:=prog) w 28 28 ty 36 i0 _ Gs hi0 hz0 ad n cap (Ay (n*6) (LH x)) (by rw[hz1];exact hc.drew.cells Zb) (.l ad2 1 cap2) 1 (Ay (1*6) (A7 (wv v))) (by rw[hz1];exact hd.src Zb Gs) Zb Zb (growslice_fits Zb (by rw[hz2];omega));rw[JA]at hrun;have hcg:=grownCap_ge w (n+1) cap 36;generalize grownCap w (n+1) cap 36=cg at hrun hcg;generalize hZ:(Value.agg #[.i 0,.s ByteArray.empty,.s ByteArray.empty,.i 0,.s ByteArray.empty,.s ByteArray.empty]).cells=Z at hrun;have hZs:Z.size=6:=by rw[<-hZ];kernel_rfl
  have hnew:∀j,(w.drew.alloc (.cells ((Ay (n*6+1*6) (Cd (LH x) (n*6) (A7 (wv v)))).toArray++Builtin.zeroCells Z (cg-(n+1))) 36)).cell? ⟨w.1.size,j,none⟩=((Ay (n*6+1*6) (Cd (LH x) (n*6) (A7 (wv v)))).toArray++Builtin.zeroCells Z (cg-(n+1)))[j]?:=λj=>by have:=Ao w.drew ((Ay (n*6+1*6) (Cd (LH x) (n*6) (A7 (wv v)))).toArray++Builtin.zeroCells Z (cg-(n+1))) 36 j;rw[show w.drew.1.size=w.1.size from rfl]at this;exact this
  have hlo:∀j,j<(n+1)*6->((Ay (n*6+1*6) (Cd (LH x) (n*6) (A7 (wv v)))).toArray++Builtin.zeroCells Z (cg-(n+1)))[j]?=some (LH (KP x n v) j):=λj hj=>by rw[Gm (by simp[AK];omega),Ac,BN (by rw[AK];omega),CF,Yf x n v j hj]
  have hhi:∀j u,(n+1)*6<=j->((Ay (n*6+1*6) (Cd (LH x) (n*6) (A7 (wv v)))).toArray++Builtin.zeroCells Z (cg-(n+1)))[j]?=some u->u=A7 (wv ⟨0,⟨#[]⟩,⟨#[]⟩,0,⟨#[]⟩,⟨#[]⟩⟩) (j%6):=λj u hj hu=>by rw[Array.getElem?_append_right (by simp[AK];omega),BU,AK,<-hZ]at hu;rw[rS _ _ _ hu,show(j-(n*6+1*6))%6=j%6 by omega]
  have hfz:∀j,(w.drew.alloc (.cells ((Ay (n*6+1*6) (Cd (LH x) (n*6) (A7 (wv v)))).toArray++Builtin.zeroCells Z (cg-(n+1))) 36)).frozen? ⟨w.1.size,j,none⟩=false:=λj=>by have:=LZ w.drew ((Ay (n*6+1*6) (Cd (LH x) (n*6) (A7 (wv v)))).toArray++Builtin.zeroCells Z (cg-(n+1))) 36 0 0 j;rw[show w.drew.1.size=w.1.size from rfl]at this;simpa using this
  have hb':Below w.1.size w (w.drew.alloc (.cells ((Ay (n*6+1*6) (Cd (LH x) (n*6) (A7 (wv v)))).toArray++Builtin.zeroCells Z (cg-(n+1))) 36)):=((Al _ _).drew).alloc Bg _;have hls:w.1.size<(w.drew.alloc (.cells ((Ay (n*6+1*6) (Cd (LH x) (n*6) (A7 (wv v)))).toArray++Builtin.zeroCells Z (cg-(n+1))) 36)).1.size:=by rw[Au];exact Bj _
  have hpat:∀j u,((Ay (n*6+1*6) (Cd (LH x) (n*6) (A7 (wv v)))).toArray++Builtin.zeroCells Z (cg-(n+1)))[j]?=some u->∃y:Wr,u=A7 (wv y) (j%6):=λj u hu=>by
   by_cases hj:j<(n+1)*6;.rw[hlo j hj]at hu;injection hu with hu;exact⟨_,hu.symm⟩
   .exact⟨_,hhi j u Zb hu⟩
  have hsz:((Ay (n*6+1*6) (Cd (LH x) (n*6) (A7 (wv v)))).toArray++Builtin.zeroCells Z (cg-(n+1))).size=cg*6:=by rw[Array.size_append,size_zeroCells,hZs,BU,AK];omega
  refine⟨_,cg,w.1.size,_,hrun,⟨λ_=>rfl,hcg,λ_=>⟨λj hj=>?_,hfz,hls⟩,λj hj=>?_⟩,⟨λj u hu hj=>?_,λj u hu hj=>?_,λj s hj hs=>?_⟩,Ap hb',λhc0 j hj=>hb'.cell (p:=⟨g,j,none⟩) (h.room hc0).lt,AD Bg⟩;.rw[hnew,DF Zb];exact⟨_,rfl⟩
  .rw[hnew];exact hlo j hj
  .rw[hnew]at hu;obtain⟨y,rfl⟩:=hpat j u hu;exact(PY y _ (Gl _ Zb)).1 hj
  .rw[hnew]at hu;obtain⟨y,rfl⟩:=hpat j u hu;exact(PY y _ (Gl _ Zb)).2 hj
  .rw[hnew]at hs;exact aH (Gl j Zb) (hhi j _ hj hs).symm
theorem lL{x:Ob}{now:Int}(h:Bh x now=true){i:Nat}(hi:i<x.hn):¬x.hs i=⟨#[]⟩:=λe=>by simp only[Bh,DP,Ak]at h;have:=LV h.2.2.2.2.2.2 i hi;rw[e]at this;exact absurd this Za
theorem Z3{X Y:World}{B:Bk}{hi g n:Nat}{a1 a2 a3:OA}(hv:VB B)(hin:B7 X 0 hi B a1 a2 a3)(hh:hi<=X.1.size)(hf:AB (λq=>q=g) X Y)(hp:Mq X g n)(hk:∀j,j<n->Y.cell? ⟨g,j,none⟩=X.cell? ⟨g,j,none⟩):B7 Y 0 hi B a1 a2 a3:=by
 have nb:∀j b,¬X.cell? ⟨g,j,none⟩=some (.bool b):=λj b e=>by
  by_cases hj:j%6=0\/j%6=3;.obtain⟨i,h⟩:=hp.pi j _ e hj;cases h
  .obtain⟨i,h⟩:=hp.ps j _ e hj;cases h
 have ob:∀b,b<X.1.size->¬b=g->∀j,Y.cell? ⟨b,j,none⟩=X.cell? ⟨b,j,none⟩:=λb h1 h2 j=>hf.cell (p:=⟨b,j,none⟩) h1 h2;have st:∀(x:Ob)(now:Int)(ah:OA),Bh x now=true->Ax X 0 hi ah x.hn x.hs->Ax Y 0 hi ah x.hn x.hs:=λx now ah hx hs i hi'=>by
  obtain⟨b,off,e1,e2,e3,e4⟩:=hs i hi';refine⟨b,off,e1,e2,e3,?_⟩;by_cases hb:b=g
  .subst hb;by_cases hj:off+i<n;.exact(hk _ hj).trans e4
   .exact absurd (hp.z _ _ Zb e4) (lL hx hi')
  .exact(ob b Zb hb _).trans e4
 refine⟨λi hi'=>?_,λi hi'=>?_,λi hi'=>?_⟩
 .obtain⟨b,off,ah,ch,e1,e2,e3,e4,e5⟩:=hin.o i hi';have e:=ob b Zb (λq=>nb _ _ (q▸e4.c5));exact⟨b,off,ah,ch,e1,e2,e3,⟨(e _).trans e4.c0,(e _).trans e4.c1,(e _).trans e4.c2,(e _).trans e4.c3,(e _).trans e4.c4,(e _).trans e4.c5,(e _).trans e4.c6⟩,st _ _ _ (hv.fit i hi').1 e5⟩
 .obtain⟨b,off,ah,ch,e1,e2,e3,e4,e5⟩:=hin.h i hi';have e:=ob b Zb (λq=>nb _ _ (q▸e4.c1));have hc:=hv.chg i hi';simp only[E5,Ak]at hc;exact⟨b,off,ah,ch,e1,e2,e3,⟨(e _).trans e4.c0,(e _).trans e4.c1,(e _).trans e4.c2,(e _).trans e4.c3,(e _).trans e4.c4,(e _).trans e4.c5,(e _).trans e4.c6,(e _).trans e4.c7,(e _).trans e4.c8⟩,st _ _ _ hc.2.1 e5⟩
 .obtain⟨b,off,e1,e2,e3,e4⟩:=hin.t i hi';have hb:¬b=g:=λq=>by
   subst q;by_cases h3:(off+i*5+3)%6=0\/(off+i*5+3)%6=3;.obtain⟨s,h⟩:=hp.ps _ _ e4.c4 Zb;cases h
   .obtain⟨s,h⟩:=hp.ps _ _ e4.c3 h3;cases h
  have e:=ob b Zb hb;exact⟨b,off,e1,e2,e3,⟨(e _).trans e4.c0,(e _).trans e4.c1,(e _).trans e4.c2,(e _).trans e4.c3,(e _).trans e4.c4⟩⟩
def cD (R:Nat)(S hi:Nat)(B:Bk)(a1:OA)(c1:Nat)(W:World)(i:Nat)(v:Value)(X:World):Prop:=match i with
 |0=>v=.p S 2
 |1=>v=.l a1 B.on c1
 |2=>v=.p R 0
 |3=>v=.p S 2
 |4=>v=.l a1 B.on c1
 |5=>v=.i (B.on:Nat)
 |6=>∃k:Nat,k<B.on/\v=.i k
 |7=>∃k b off:Nat,k<B.on/\a1=some ⟨b,off,none⟩/\v=.pointer (some ⟨b,off+k*7,none⟩)
 |8=>∃(k:Nat)(ah:OA)(ch:Nat),k<B.on/\v=.agg (vO (B.os k) ah ch)/\Ax W 0 hi ah (B.os k).hn (B.os k).hs
 |9=>∃z:Nat,v=.p z 0/\W.1.size<=z/\AM X z 7 (A7 [.s ⟨#[]⟩,.s ⟨#[]⟩,.i 0,.i 0,.s ⟨#[]⟩,.bool false,.l none 0 0])
 |_=>True
theorem Pw{P:Prop}(h:P:=by refine Ar rfl rfl ?_;clear hK hg;go_simp;simpa[AN]using h):P:=h
theorem gZ{p1 p2 p4 p5 p6 p7 p9 DA Du DC Dx Da CY CV CX CW CR C4 CU CS CQ Dl C6 Db C9 C7 Dj Dg Df Dk Dh De Dt Di Dy DB EF Ew Ex EW FU FW FV FC FA Fz FT Fx Hl Hm Hn Hk Hj GL GN GX GT GY GP GZ GV GQ GS GR G4 IA It Iu GU GO G3 GM G5 Ic JD Jj Jk Je Jh Jg Iy Iq Is Iw Ir Iz Ip Ji En:Value}{mk:(Nat->Value)->Array Value}(t0:Nat->Value)(R:Nat)(ad:OA)(nn cap p:Nat)(S hi:Nat)(B:Bk)(a1:OA)(c1:Nat)(W:World)(hr:Rd W R ad nn cap p)(hp:p<=900000)(hS:S<W.1.size)(hSR:¬S=R)(hcS:W.cell? ⟨S,2,none⟩=some (.slice a1 B.on c1))(ho:Bs W 0 hi a1 B.on B.os)(hhi:hi<=W.1.size)(hn0:0<B.on)(hn1:B.on<=100)(hmk:mk=λt=>#[.p R 0,p1,p2,.p S 0,p4,p5,p6,p7,t 9,p9,DA,Du,DC,Dx,Da,CY,CV,CX,CW,CR,C4,CU,CS,CQ,Dl,C6,Db,C9,C7,Dj,Dg,Df,Dk,Dh,De,Dt,Di,Dy,DB,EF,t 0,t 1,t 2,t 3,t 4,t 5,t 6,t 7,t 8,Ew,Ex,EW,FU,FW,FV,FC,FA,Fz,FT,Fx,Hl,Hm,Hn,Hk,Hj,GL,GN,GX,GT,GY,GP,GZ,GV,GQ,GS,GR,G4,IA,It,Iu,GU,GO,G3,GM,G5,Ic,JD,Jj,Jk,Je,Jh,Jg,Iy,Iq,Is,Iw,Ir,Iz,Ip,Ji,En])(Q:Exit->Act->World->Prop)(hQ:∀(t:Nat->Value)(z k:Nat)(ah:OA)(ch:Nat)(pz:Nat) X,t 9=.p z 0->W.1.size<=z->k<B.on->Ax W 0 hi ah (B.os k).hn (B.os k).hs->AM X z 7 (A7 (iX (B.os k) ah ch))->AB (λq=>q=R) W X->p<=pz->pz<=p+10->Rd X R ad nn cap pz->Q .normal ⟨mk t,[]⟩ X):Code.wp prog (rg Tryz.f37 7) Q ⟨mk t0,[]⟩ W:=by
 have hRW:=hr.lt;refine MM Ze 10 mk t0 R ad nn cap p (cD R S hi B a1 c1 W) (λa X=>∃(t:Nat->Value)(z k:Nat)(ah:OA)(ch:Nat)(pz:Nat),a=⟨mk t,[]⟩/\t 9=.p z 0/\W.1.size<=z/\k<B.on/\Ax W 0 hi ah (B.os k).hn (B.os k).hs/\AM X z 7 (A7 (iX (B.os k) ah ch))/\AB (λq=>q=R) W X/\p<=pz/\pz<=p+10/\Rd X R ad nn cap pz) Ze Ze Ze ?_ rfl hr ?_ ?_ ?_;all_goals subst hmk
 .intro i v X Y hi h hF hR hX;rcases(show i=0\/i=1\/i=2\/i=3\/i=4\/i=5\/i=6\/i=7\/i=8\/i=9 by omega)with rfl|rfl|rfl|rfl|rfl|rfl|rfl|rfl|rfl|rfl;.exact h
  .exact h
  .exact h
  .exact h
  .exact h
  .exact h
  .exact h
  .exact h
  .exact h
  .obtain⟨z,e,a1,a2⟩:=h;exact⟨z,e,a1,a2.fr2 hF Zb⟩
 .intro i hi t X K p' hb hp1 hp2 hrd hg hK;rcases(show i=0\/i=1\/i=2\/i=3\/i=4\/i=5\/i=6\/i=7\/i=8\/i=9 by omega)with rfl|rfl|rfl|rfl|rfl|rfl|rfl|rfl|rfl|rfl;.have h:=hK (.p S 2) X p' Bg Zb rfl (AB.refl _ _) hrd;exact Pw
  .have e0:t 0=_:=hg 0 (BB rfl);have cS:=(hb.cell (p:=⟨S,2,none⟩) hS hSR).trans hcS;have h:=hK (.l a1 B.on c1) X p' Bg Zb rfl (AB.refl _ _) hrd;refine Ar rfl rfl ?_;clear hK hg;go_simp;simpa[AN,e0]using h
  .have h:=hK (.p R 0) X p' Bg Zb rfl (AB.refl _ _) hrd;exact Pw
  .have h:=hK (.p S 2) X p' Bg Zb rfl (AB.refl _ _) hrd;exact Pw
  .have e3:t 3=_:=hg 3 (BB rfl);have cS:=(hb.cell (p:=⟨S,2,none⟩) hS hSR).trans hcS;have h:=hK (.l a1 B.on c1) X p' Bg Zb rfl (AB.refl _ _) hrd;refine Ar rfl rfl ?_;clear hK hg;go_simp;simpa[AN,e3]using h
  .have e4:t 4=_:=hg 4 (BB rfl);have h:=hK (.i (B.on:Nat)) X p' Bg Zb rfl (AB.refl _ _) hrd;refine Ar rfl rfl ?_;clear hK hg;go_simp;simpa[AN,e4]using h
  .have e2:t 2=_:=hg 2 (BB rfl);have e5:t 5=_:=hg 5 (BB rfl);refine Ar rfl rfl ?_;have HK:=Ag hK;have HR:=Ag hrd;clear hK hg hrd;go_simp;go_at_call 12;refine(BV R ad nn cap p' (B.on:Nat) X HR Zb Zb Zb).mono ?_;rintro r Y ⟨v,rfl,_,hv,hf,hr2⟩;have h:=HK (.i v) Y (p'+1) Zb Bg ⟨v,by have:=hv Zb;omega,rfl⟩ hf hr2;simpa[AN,e2,e5]using h
  .have e1:t 1=_:=hg 1 (BB rfl);obtain⟨k,hk,e6⟩:∃k:Nat,k<B.on/\t 6=.i k:=hg 6 (BB rfl);obtain⟨b,off,ah,ch,ea,_,_,_,_⟩:=ho k hk;rw[ea]at e1;have h:=hK (.pointer (some ⟨b,off+k*7,none⟩)) X p' Bg Zb ⟨k,b,off,hk,ea,rfl⟩ (AB.refl _ _) hrd;refine Ar rfl rfl ?_;clear hK hg;go_simp;simpa[AN,e1,e6]using h
  .obtain⟨k,b,off,hk,ea,e7⟩:∃k b off:Nat,k<B.on/\a1=some ⟨b,off,none⟩/\t 7=.pointer (some ⟨b,off+k*7,none⟩):=hg 7 (BB rfl);obtain⟨b',off',ah,ch,ea',_,hb3,hc,hst⟩:=ho k hk;rw[ea]at ea';obtain⟨rfl,rfl⟩:b=b'/\off=off':=by simpa using ea'
   have hne:¬b=R:=KR hr.ns hc.c0;have cc:∀j,X.cell? ⟨b,j,none⟩=W.cell? ⟨b,j,none⟩:=λj=>hb.cell (p:=⟨b,j,none⟩) (by show b<W.1.size;omega) hne;have q0:=(cc _).trans hc.c0;have q1:=(cc _).trans hc.c1;have q2:=(cc _).trans hc.c2;have q3:=(cc _).trans hc.c3;have q4:=(cc _).trans hc.c4;have q5:=(cc _).trans hc.c5;have q6:=(cc _).trans hc.c6;have h:=hK (.agg (vO (B.os k) ah ch)) X p' Bg Zb ⟨k,ah,ch,hk,rfl,hst⟩ (AB.refl _ _) hrd;refine Ar rfl rfl ?_;clear hK hg hc cc;go_simp;simpa[AN,e7]using h
  .have h:=hK (.p (X.1.size) 0) (X.alloc (.cells #[.s ⟨#[]⟩,.s ⟨#[]⟩,.i 0,.i 0,.s ⟨#[]⟩,.bool false,.l none 0 0] 61)) p' Bg Zb ⟨X.1.size,rfl,hb.size,AM.new (l:=[.s ⟨#[]⟩,.s ⟨#[]⟩,.i 0,.i 0,.s ⟨#[]⟩,.bool false,.l none 0 0]) (t:=61) Ck⟩ (Ap EC) (hrd.below EC);exact Pw
 .intro t X K p' hb hp1 hp2 hrd hg hK;obtain⟨k,ah,ch,hk,e8,hst⟩:∃(k:Nat)(ah:OA)(ch:Nat),k<B.on/\t 8=.agg (vO (B.os k) ah ch)/\Ax W 0 hi ah (B.os k).hn (B.os k).hs:=hg 8 Zb;obtain⟨z,e9,hz,hrow⟩:∃z:Nat,t 9=.p z 0/\W.1.size<=z/\AM X z 7 (A7 [.s ⟨#[]⟩,.s ⟨#[]⟩,.i 0,.i 0,.s ⟨#[]⟩,.bool false,.l none 0 0]):=hg 9 Zb;have rf:=hrow.free;have rl:=hrow.lt;obtain⟨r0,r1,r2,r3,r4,r5,r6⟩:=lN hrow;have R6:=(((((((hrow.set (o:=0) Zb (.s (B.os k).kind)).set (o:=1) Zb (.s (B.os k).name)).set (o:=2) Zb (.i (B.os k).ver)).set (o:=3) Zb (.i (B.os k).born)).set (o:=4) Zb (.s (B.os k).text)).set (o:=5) Zb (.bool (B.os k).ending)).set (o:=6) Zb (.l ah (B.os k).hn ch));have F6:=hb.far7 (z:=z) hz (.s (B.os k).kind) (.s (B.os k).name) (.i (B.os k).ver) (.i (B.os k).born) (.s (B.os k).text) (.bool (B.os k).ending) (.l ah (B.os k).hn ch);have D6:=hr.far7 hrd (z:=z) hz (.s (B.os k).kind) (.s (B.os k).name) (.i (B.os k).ver) (.i (B.os k).born) (.s (B.os k).text) (.bool (B.os k).ending) (.l ah (B.os k).hn ch);have h:=hK _ _ ⟨t,z,k,ah,ch,p',rfl,e9,hz,hk,hst,⟨R6.lt,R6.free,λj hj=>by rw[R6.cell j hj];rcases(show j=0\/j=1\/j=2\/j=3\/j=4\/j=5\/j=6 by omega)with rfl|rfl|rfl|rfl|rfl|rfl|rfl<;>rfl⟩,F6,hp1,hp2,D6⟩;have HK:=Ag h;clear hK hg hrow h R6 F6 D6;refine Ar rfl rfl ?_;go_simp;simpa[e8,e9]using HK.out
 .rintro a X ⟨t,z,k,ah,ch,pz,rfl,a1,a2,a3,a4,a5,a6,a7,a8,a9⟩;exact hQ t z k ah ch pz X a1 a2 a3 a4 a5 a6 a7 a8 a9
def DO (B:Bk)(cl:ByteArray):Nat:=E7 (λi=>(B.ts i).client) cl B.tn
def Hv (B:Bk)(cl:ByteArray):Bool:=decide (DO B cl<B.tn)&&decide ((B.ts (DO B cl)).client=cl)
end Go.Proofs.YtofencldleijcaaGreat
