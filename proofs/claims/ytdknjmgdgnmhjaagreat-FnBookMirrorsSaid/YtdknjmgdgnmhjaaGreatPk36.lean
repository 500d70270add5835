import Derived.Test.YtdknjmgdgnmhjaaGreatPk33
set_option maxRecDepth 100000
set_option maxHeartbeats 4000000
namespace Go.Proofs.YtdknjmgdgnmhjaaGreat
open Go.RowKit Go.Proofs.Tryz
variable {w w' X Z:World}{C hi n z:Nat}{ad am:OA}{s s1 s2 t1 t2:ByteArray}{x os:Nat→Ob}{nw sn:Int}{U:Nat→Prop}
def M9 (c:Nat->Nat)(l:Array Bool):Nat->Nat
 |0=>0
 |n+1=>M9 c l n+if l.getD n false=true then c n else 0
def jI (c:Nat->Nat):Nat->Nat
 |0=>0
 |n+1=>jI c n+c n
theorem eJ (c:Nat->Nat)(l:Array Bool):∀n,M9 c l n<=jI c n
 |0=>AG _
 |n+1=>by have:=eJ c l n;show M9 c l n+_<=jI c n+c n;split<;>omega
theorem Ug (c:Nat->Nat)(l:Array Bool)(h:∀i,l.getD i false=false):∀n,M9 c l n=0
 |0=>rfl
 |n+1=>by show M9 c l n+_=0;rw[Ug c l h n,h n];rfl
theorem Tq{c:Nat->Nat}{l l':Array Bool}:∀{n:Nat},(∀j,j<n->l'.getD j false=l.getD j false)->M9 c l' n=M9 c l n
 |0,_=>rfl
 |n+1,h=>by show M9 c l' n+_=M9 c l n+_;rw[Tq (λj hj=>h j Za),h n Za]
theorem Ym{c:Nat->Nat}{l:Array Bool}{i:Nat}(hi:i<l.size)(h:l.getD i false=false):∀{n:Nat},i<n->M9 c (l.setIfInBounds i true) n=M9 c l n+c i
 |0,h0=>absurd h0 (Ae _)
 |n+1,h0=>by
  show M9 c (l.setIfInBounds i true) n+_=M9 c l n+_+c i;by_cases e:i=n;.subst e;rw[Tq (l:=l) (λj hj=>by rw[Cq hi,if_neg Za]),Cq hi,if_pos rfl,h];simp
  .have g:(l.setIfInBounds i true).getD n false=l.getD n false:=by rw[Cq hi,if_neg (λe'=>e e'.symm)]
   rw[Ym hi h (by omega:i<n),g];generalize(if l.getD n false=true then c n else 0)=z;omega
def RSt (n:Nat)(c:Nat->Nat)(mk:(Nat->Value)->Array Value)(W:World)(R:Nat)(ad:OA)(nn cap p:Nat)(U:Nat->Prop)(m:Nat)(J:World->Prop)(G:Nat->Value->World->Prop)(Fin:Act->World->Prop)(l:Array Bool)(a:Act)(X:World):Prop:=l.size=n/\∃t:Nat->Value,a=⟨mk t,[]⟩/\AB U W X/\(∃p',p<=p'/\p'<=p+M9 c l n/\Rd X R ad nn cap p')/\((l.getD m false=true/\(∀j,j<n->l.getD j false=true)/\Fin a X)\/(l.getD m false=false/\J X/\∀i,i<n->l.getD i false=true->G i (t i) X))
theorem KW{P:Program}{id:Nat}{ops:Array Oper}{Q:Exit->Act->World->Prop}{a0:Act}{W:World}(hm:P.follows .mixedOrders=true)(n tot:Nat)(c:Nat->Nat)(mk:(Nat->Value)->Array Value)(t0:Nat->Value)(R:Nat)(ad:OA)(nn cap p:Nat)(U:Nat->Prop)(D:Nat->Nat->Prop)(m:Nat)(J:World->Prop)(G:Nat->Value->World->Prop)(Fin:Act->World->Prop)(hn:ops.size=n)(Fj:((List.range ops.size).all λi=>match ops[i]? with|some o=>o.after.all (λe=>!(Region.binds .any e)||decide (e.on<i))|none=>true)=true)(Jq:((List.range n).all λj=>j==m||match ops[m]? with|some o=>o.after.any (λe=>Region.binds .any e&&e.on==j)|none=>true)=true)(hT:jI c n=tot)(hU:∀i q,D i q->U q)(st:∀i j v X Y p',i<n->j<n->¬i=j->¬j=m->G i v X->J X->AB (D j) X Y->Rd X R ad nn cap p'->W.1.size<=X.1.size->G i v Y)(h0:a0=⟨mk t0,[]⟩)(hr:Rd W R ad nn cap p)(hJ:J W.drew)(sg:∀i,i<n->∀(t:Nat->Value) X K p',AB U W X->p<=p'->p'+c i<=p+tot->Rd X R ad nn cap p'->J X->(∀j,Ci ops i j->G j (t j) X)->(∀v Y p2,p'<=p2->p2<=p'+c i->G i v Y->AB (D i) X Y->Rd Y R ad nn cap p2->((¬i=m/\J Y)\/(i=m/\Fin ⟨mk (AX t i v),[]⟩ Y))->K ⟨mk (AX t i v),[]⟩ Y)->wpOp P ops Q i K ⟨mk t,[]⟩ X)(G7:∀(t:Nat->Value) X p',AB U W X->p<=p'->p'<=p+tot->Rd X R ad nn cap p'->((m<n/\Fin ⟨mk t,[]⟩ X)\/(n<=m/\J X/\∀i,i<n->G i (t i) X))->Q .normal ⟨mk t,[]⟩ X):(Code.region id ops true).wp P Q a0 W:=by
 have BJ:∀i j,i<n->Ci ops i j->j<n:=by exact Ac2
 have Li:∀l:Array Bool,M9 c l n<=tot:=λl=>hT▸eJ c l n;refine Dk hm (RSt n c mk W R ad nn cap p U m J G Fin) ?_ ?_ ?_ ?_
 .have hz:∀i,(Array.replicate ops.size false).getD i false=false:=λi=>by simp[Array.getD]
  exact⟨by simp[hn],t0,h0,Aj (Ap _ _).drew,⟨p,AG _,by rw[Ug c _ hz];exact AG _,hr.below (Ap _ _).drew⟩,Az ⟨hz m,hJ,λi _ h=>by rw[hz]at h;cases h⟩⟩
 .exact RH
 .rintro l a X ⟨hs,t,rfl,hb,⟨p',q1,q2,AW⟩,hj⟩ hr';have AL:=IT Fj Zcn hr';have:=Li l;refine G7 t X p' hb q1 Za AW ?_;rcases hj with⟨h,_,hF⟩|⟨h0,h,gg⟩;.exact AA ⟨Nat.lt_of_not_le (λe=>by rw[Array.getD,dif_neg Za]at h;cases h),hF⟩
  .exact Az ⟨Nat.le_of_not_lt (λe=>by have:=AL m Za;rw[h0]at this;cases this),h,λi hi=>gg i hi (AL i Za)⟩
 .rintro l a X i ⟨hs,t,rfl,hb,⟨p',q1,q2,AW⟩,hj⟩ hr';obtain⟨hu,o,ho,Bg⟩:=mem_ready.1 hr';have di:∀j,Ci ops i j->l.getD j false=true:=by exact WQ
  have LA:i<n:=by exact zU
  have FH:l.getD i false=false:=by exact Vd
  have kp:∀j,¬j=i->(l.setIfInBounds i true).getD j false=l.getD j false:=λj hj=>by rw[Cq Za,if_neg hj]
  have hs':(l.setIfInBounds i true).size=n:=by simp[hs]
  have hc:=Ym (c:=c) Za FH LA;have iq:=Li (l.setIfInBounds i true);obtain⟨gv,gk,gg⟩:l.getD m false=false/\J X/\∀i,i<n->l.getD i false=true->G i (t i) X:=by
   rcases hj with⟨_,h,_⟩|h
   .have:=h i LA;rw[FH]at this;cases this
   .exact h
  have dm:i=m->∀j,j<n->(l.setIfInBounds i true).getD j false=true:=λe j hj=>by
   by_cases e2:j=i;.rw[e2,Cq Za,if_pos rfl]
   .rw[kp j e2];have h1:=Bz.1 Jq j (BF.2 hj);rw[<-e,ho]at h1;rcases Bool.or_eq_true_iff.1 h1 with h1|h1;.exact absurd Zcj e2
    .exact db
  clear hr' hu ho;refine sg i LA t X _ p' hb q1 Za AW gk (λj hj=>gg j (BJ i j LA hj) (di j hj)) (λv Y p2 r1 r2 hv hY y_ hjY=>⟨hs',AX t i v,rfl,hb.trans (hY.mono (λq h=>hU i q h)),⟨p2,Za,Za,y_⟩,?_⟩);rcases hjY with⟨e,hjY⟩|⟨e,hF⟩
  .refine Az ⟨?_,hjY,λj j1 h=>?_⟩;.rw[kp m (λq=>e q.symm)];exact gv
   .by_cases e2:j=i;.subst e2;rw[Cf];exact hv
    .rw[kp j e2]at h;rw[BP e2];exact st j i _ _ _ _ j1 LA e2 e (gg j j1 h) gk hY AW hb.size
  .exact AA ⟨by subst e;exact dm rfl i LA,dm e,hF⟩
structure l_ (w w':World)(C:Nat):Prop where
 f:AB (λq=>q=C) w w'
 s:∀j s,w.cell? ⟨C,j,none⟩=some (.s s)->∃s',w'.cell? ⟨C,j,none⟩=some (.s s')/\(s'.size:Int)<=140737488355328
 n:∀j b,¬w.cell? ⟨C,j,none⟩=some (.bool b)
def xG (w:World)(ad:OA)(i:Nat):ByteArray:=match ad with
 |some a=>(match w.cell? ⟨a.block,a.off+i,none⟩with|some (.s s)=>s|_=>ByteArray.empty)
 |none=>ByteArray.empty
theorem l_.strs{lo:Nat}{s:Nat->ByteArray}(h:l_ w w' C)(hh:hi<=w.1.size)(hs:AK w lo hi ad n s)(hz:∀i,i<n->((s i).size:Int)<=140737488355328):AK w' lo hi ad n (xG w' ad)/\∀i,i<n->((xG w' ad i).size:Int)<=140737488355328:=by
 have key:∀i,i<n->∃b off,ad=some ⟨b,off,none⟩/\lo<=b/\b<hi/\w'.cell? ⟨b,off+i,none⟩=some (.s (xG w' ad i))/\((xG w' ad i).size:Int)<=140737488355328:=λi hi'=>by
  obtain⟨b,off,rfl,e2,e3,e4⟩:=hs i hi';by_cases e:b=C
  .subst e;obtain⟨s',k1,k2⟩:=h.s _ _ e4;have r:xG w' (some ⟨b,off,none⟩) i=s':=by simp[xG,k1]
   exact⟨b,off,rfl,e2,e3,by rw[r];exact k1,by rw[r];exact k2⟩
  .have k1:w'.cell? ⟨b,off+i,none⟩=some (.s (s i)):=(h.f.cell (p:=⟨b,off+i,none⟩) Zj e).trans e4;have r:xG w' (some ⟨b,off,none⟩) i=s i:=by simp[xG,k1]
   exact⟨b,off,rfl,e2,e3,by rw[r];exact k1,by rw[r];exact hz i hi'⟩
 refine⟨λi hi'=>?_,λi hi'=>?_⟩
 .obtain⟨b,off,e1,e2,e3,e4,_⟩:=key i hi';exact⟨b,off,e1,e2,e3,e4⟩
 .obtain⟨_,_,_,_,_,_,e⟩:=key i hi';exact e
theorem l_.obs{lo:Nat}(h:l_ w w' C)(hh:hi<=w.1.size)(hx:Bh w lo hi ad n x)(hf:∀i,i<n->Cu (x i)):∃y:Nat->Ob,(∀i,i<n->Cu (y i))/\Bh w' lo hi ad n y:=by classical
 have hA:∀i,∃ah:Option Addr,i<n->∃b off ch,ad=some ⟨b,off,none⟩/\lo<=b/\b<hi/\DF w b (off+i*7) (x i) ah ch/\AK w lo hi ah (x i).hn (x i).hs:=λi=>by
  by_cases hi':i<n;.obtain⟨b,off,ah,ch,e⟩:=hx i hi';exact⟨ah,λ_=>⟨b,off,ch,e⟩⟩
  .exact⟨none,λe=>absurd e hi'⟩
 obtain⟨A,hA⟩:=Qp hA;have far:∀b j u,b<hi->w.cell? ⟨b,j,none⟩=some u->¬b=C->w'.cell? ⟨b,j,none⟩=some u:=λb j u hb hc e=>(h.f.cell (p:=⟨b,j,none⟩) Zj e).trans hc;refine⟨λi=>{x i with hs:=xG w' (A i)},λi hi'=>?_,λi hi'=>?_⟩;.obtain⟨b,off,ch,e1,e2,e3,e4,e5⟩:=hA i hi';have f:=hf i hi';exact wH
 .obtain⟨b,off,ch,e1,e2,e3,e4,e5⟩:=hA i hi';have nc:¬b=C:=λe=>by subst e;exact h.n _ _ e4.c5
  exact⟨b,off,A i,ch,e1,e2,e3,⟨far _ _ _ e3 e4.c0 nc,far _ _ _ e3 e4.c1 nc,far _ _ _ e3 e4.c2 nc,far _ _ _ e3 e4.c3 nc,far _ _ _ e3 e4.c4 nc,far _ _ _ e3 e4.c5 nc,far _ _ _ e3 e4.c6 nc⟩,(h.strs hh e5 (hf i hi').s).1⟩
theorem l_.book{lo:Nat}{x:Bk}{a1 a2 a3:OA}(h:l_ w w' C)(kj:∀x o,¬Ji w C o x)(hh:hi<=w.1.size)(hx:BL w lo hi x a1 a2 a3)(hf:BS x):∃y:Bk,(y.v=x.v/\y.f=x.f)/\(y.on=x.on/\y.hn=x.hn/\y.tn=x.tn)/\BL w' lo hi y a1 a2 a3/\BS y:=by classical
 have hA:∀i,∃ah:Option Addr,i<x.on->∃b off ch,a1=some ⟨b,off,none⟩/\lo<=b/\b<hi/\DF w b (off+i*7) (x.os i) ah ch/\AK w lo hi ah (x.os i).hn (x.os i).hs:=λi=>by
  by_cases hi':i<x.on
  .obtain⟨b,off,ah,ch,e⟩:=hx.o i hi';exact⟨ah,λ_=>⟨b,off,ch,e⟩⟩
  .exact⟨none,λe=>absurd e hi'⟩
 have hB:∀i,∃ah:Option Addr,i<x.hn->∃b off ch,a2=some ⟨b,off,none⟩/\lo<=b/\b<hi/\Dz w b (off+i*9) (x.hs i) ah ch/\AK w lo hi ah (x.hs i).ob.hn (x.hs i).ob.hs:=λi=>by
  by_cases hi':i<x.hn
  .obtain⟨b,off,ah,ch,e⟩:=hx.h i hi';exact⟨ah,λ_=>⟨b,off,ch,e⟩⟩
  .exact⟨none,λe=>absurd e hi'⟩
 obtain⟨A,hA⟩:=Qp hA;obtain⟨B,hB⟩:=Qp hB;have far:∀b j u,b<hi->w.cell? ⟨b,j,none⟩=some u->¬b=C->w'.cell? ⟨b,j,none⟩=some u:=λb j u hb hc e=>(h.f.cell (p:=⟨b,j,none⟩) Zj e).trans hc;refine⟨{x with os:=λi=>{x.os i with hs:=xG w' (A i)},hs:=λi=>{x.hs i with ob:={(x.hs i).ob with hs:=xG w' (B i)}}},⟨rfl,rfl⟩,⟨rfl,rfl,rfl⟩,⟨λi hi'=>?_,λi hi'=>?_,λi hi'=>?_⟩,⟨hf.o,hf.h,hf.t,λi hi'=>?_,λi hi'=>?_,hf.ts⟩⟩
 .obtain⟨b,off,ch,e1,e2,e3,e4,e5⟩:=hA i hi';have nc:¬b=C:=λe=>by subst e;exact h.n _ _ e4.c5
  exact⟨b,off,A i,ch,e1,e2,e3,⟨far _ _ _ e3 e4.c0 nc,far _ _ _ e3 e4.c1 nc,far _ _ _ e3 e4.c2 nc,far _ _ _ e3 e4.c3 nc,far _ _ _ e3 e4.c4 nc,far _ _ _ e3 e4.c5 nc,far _ _ _ e3 e4.c6 nc⟩,(h.strs hh e5 (hf.os i hi').s).1⟩
 .obtain⟨b,off,ch,e1,e2,e3,e4,e5⟩:=hB i hi';have nc:¬b=C:=λe=>by subst e;exact h.n _ _ e4.c1
  exact⟨b,off,B i,ch,e1,e2,e3,⟨far _ _ _ e3 e4.c0 nc,far _ _ _ e3 e4.c1 nc,far _ _ _ e3 e4.c2 nc,far _ _ _ e3 e4.c3 nc,far _ _ _ e3 e4.c4 nc,far _ _ _ e3 e4.c5 nc,far _ _ _ e3 e4.c6 nc,far _ _ _ e3 e4.c7 nc,far _ _ _ e3 e4.c8 nc⟩,(h.strs hh e5 (hf.hs i hi').s).1⟩
 .obtain⟨b,off,e1,e2,e3,e4⟩:=hx.t i hi';have nc:¬b=C:=λe=>by subst e;exact kj _ _ e4
  exact⟨b,off,e1,e2,e3,⟨far _ _ _ e3 e4.c0 nc,far _ _ _ e3 e4.c1 nc,far _ _ _ e3 e4.c2 nc,far _ _ _ e3 e4.c3 nc,far _ _ _ e3 e4.c4 nc⟩⟩
 .obtain⟨b,off,ch,e1,e2,e3,e4,e5⟩:=hA i hi';have f:=hf.os i hi';exact wH
 .obtain⟨b,off,ch,e1,e2,e3,e4,e5⟩:=hB i hi';have f:=hf.hs i hi';exact wH
def vy:List ByteArray:=[⟨#[]⟩,⟨#[98,101,114,116,104]⟩,⟨#[106,111,98]⟩]
def d_:List ByteArray:=[⟨#[]⟩,⟨#[120]⟩]
theorem Acl (h:s∈vy):s.size<=8:=by simp only[vy,CU,Lx,or_false]at h;rcases h with rfl|rfl|rfl<;>decide
theorem Abc (h:s∈d_):s.size<=8:=by simp only[d_,CU,Lx,or_false]at h;rcases h with rfl|rfl<;>decide
def Ah9:Ob:=⟨⟨#[]⟩,⟨#[]⟩,0,0,⟨#[]⟩,false,0,λ_=>⟨#[]⟩⟩
theorem Vh (p:Nat->Bool):∀k j,j∈Ku p k->j<k
 |0,j,h=>by simp[Ku]at h
 |k+1,j,h=>by
  unfold Ku at h;split at h
  .rcases List.mem_append.1 h with h|h;.have:=Vh p k j h;omega
   .have:j=k:=by simpa using h
    omega
  .have:=Vh p k j h;omega
theorem dH{B:Bk}(hf:BS B)(ki pr:ByteArray)(i:Nat)(hi:i<(Dw B ki pr).length):Cu (CI B.os (Dw B ki pr) i):=by
 unfold CI;refine hf.os _ ?_;have e0:(Dw B ki pr).getD i 0=(Dw B ki pr)[i]:=by simp[List.getD,hi]
 rw[e0];have h:=Fd hi;generalize(Dw B ki pr)[i]=q at h⊢;unfold Dw at h;split at h;.exact Vh _ _ _ h
 .cases h
theorem dD (B:Bk)(ki pr:ByteArray):(Dw B ki pr).length<=B.on:=by
 unfold Dw;split;.exact QB _ _
 .exact Ar _
structure LK (X:World)(lo:Nat)(s1 s2:ByteArray)(nw sn:Int)(am:OA)(n:Nat)(os:Nat->Ob):Prop where
 k:s1.size<=8
 p:s2.size<=8
 a:0<=nw/\nw<=1000000
 s:0<=sn/\sn<=1000
 m:n<=100
 f:∀i,i<n->Cu (os i)i:Bh X lo X.1.size am n os
theorem Adc{lo:Nat}{Y:Bk}{k:Nat}(hv:VB Y)(hf:BS Y)(h1:s1.size<=8)(h2:s2.size<=8)(hk:k<3)(hi:Bh X lo X.1.size am (Dw Y s1 s2).length (CI Y.os (Dw Y s1 s2))):LK X lo s1 s2 (Is Y) k am (Dw Y s1 s2).length (CI Y.os (Dw Y s1 s2)):=by refine⟨h1,h2,?_,Za,AJ (dD _ _ _) hv.on,λi hi=>dH hf _ _ i hi,hi⟩;have:=hv.n0;have:=hv.n1;have:=hv.n2;unfold Is;split<;>omega
theorem LK.fr{lo:Nat}(h:LK X lo s1 s2 nw sn am n os)(hF:AB U X Z)(hU:∀q,lo<=q->¬U q):LK Z lo s1 s2 nw sn am n os:=⟨h.k,h.p,h.a,h.s,h.m,h.f,h.i.to (λq j h1 h2=>hF.cell (p:=⟨q,j,none⟩) h2 (hU q h1)) A9 hF.size⟩
theorem LK.lo{lo lo2:Nat}(h:LK X lo s1 s2 nw sn am n os)(hl:lo2<=lo):LK X lo2 s1 s2 nw sn am n os:=⟨h.k,h.p,h.a,h.s,h.m,h.f,h.i.to (λ_ _ _ _=>rfl) hl A9⟩
def LL (X:World)(z:Nat):Prop:=∀j,5<=j->X.cell? ⟨z,j,none⟩=none
theorem LL.new (w:World):LL (w.alloc (.cells #[.s ⟨#[]⟩,.s ⟨#[]⟩,.i 0,.l none 0 0,.i 0] 25)) w.1.size:=λj hj=>by rw[Al w #[.s ⟨#[]⟩,.s ⟨#[]⟩,.i 0,.l none 0 0,.i 0] 25 j];match j,hj with
 |n+5,_=>simp
theorem LL.fr (h:LL X z)(hF:AB U X Z)(hl:z<X.1.size)(hU:¬U z):LL Z z:=λj hj=>(hF.cell (p:=⟨z,j,none⟩) hl hU).trans (h j hj)
theorem LK.put{lo:Nat}(h:LK X lo s1 s2 nw sn am n os){u1 u2:Int}{n1 c1:Nat}(hr:AE X z 5 (AV [.s t1,.s t2,.i u1,.l ad n1 c1,.i u2]))(hs:LL X z)(bm:OA)(m cp:Nat)(hF:AB (λq=>q=z) X Z){d:Nat->Value}(hz:AE Z z 5 (GR (GR (GR (GR (GR d 0 (.s s1)) 1 (.s s2)) 2 (.i nw)) 3 (.l bm m cp)) 4 (.i sn))):∃os',LK Z lo s1 s2 nw sn am n os':=by
 have ht:l_ X Z z:=by
  refine⟨hF,λj s e=>?_,λj b e=>?_⟩;.match j with
   |0=>exact⟨s1,hz.cell 0 Zb,by have:=h.k;omega⟩
   |1=>exact⟨s2,hz.cell 1 Zb,by have:=h.p;omega⟩
   |2=>exact absurd ((hr.cell 2 Zb).symm.trans e) XY
   |3=>exact absurd ((hr.cell 3 Zb).symm.trans e) XY
   |4=>exact absurd ((hr.cell 4 Zb).symm.trans e) XY
   |j+5=>exact absurd ((hs (j+5) Za).symm.trans e) Ze
  .match j with
   |0=>exact absurd ((hr.cell 0 Zb).symm.trans e) XY
   |1=>exact absurd ((hr.cell 1 Zb).symm.trans e) XY
   |2=>exact absurd ((hr.cell 2 Zb).symm.trans e) XY
   |3=>exact absurd ((hr.cell 3 Zb).symm.trans e) XY
   |4=>exact absurd ((hr.cell 4 Zb).symm.trans e) XY
   |j+5=>exact absurd ((hs (j+5) Za).symm.trans e) Ze
 obtain⟨y,hy,hi⟩:=ht.obs A9 h.i h.f;exact⟨y,h.k,h.p,h.a,h.s,h.m,hy,Bh.to hi (λ_ _ _ _=>rfl) A9 hF.size⟩
def tg (R:Nat)(_Bb:Nat)(Y:Bk)(b1 b2 b3:OA)(k1 k2 k3:Nat)(W:World)(i:Nat)(v:Value)(X:World):Prop:=match i with
 |0=>v=.agg (vB Y b1 b2 b3 k1 k2 k3)
 |1=>SL X W.1.size v vy
 |2=>v=.p R 0
 |3=>∃k:Nat,k<3/\v=.i k
 |4=>∃(g k:Nat)(s:ByteArray),v=.pointer (some ⟨g,k,none⟩)/\W.1.size<=g/\g<X.1.size/\s.size<=8/\X.cell? ⟨g,k,none⟩=some (.s s)
 |5=>∃s:ByteArray,s.size<=8/\v=.s s
 |6=>SL X W.1.size v d_
 |7=>v=.p R 0
 |8=>∃k:Nat,k<2/\v=.i k
 |9=>∃(g k:Nat)(s:ByteArray),v=.pointer (some ⟨g,k,none⟩)/\W.1.size<=g/\g<X.1.size/\s.size<=8/\X.cell? ⟨g,k,none⟩=some (.s s)
 |10=>∃s:ByteArray,s.size<=8/\v=.s s
 |11=>v=.p R 0
 |12=>∃k:Nat,k<3/\v=.i k
 |13=>∃(s1 s2:ByteArray)(k:Nat),v=.agg #[.s s1,.s s2,.i 0,.l none 0 0,.i k]/\s1.size<=8/\s2.size<=8/\k<3
 |14=>∃(s1 s2:ByteArray)(nw sn:Int)(am:OA)(n cp:Nat)(os:Nat->Ob),v=.agg #[.s s1,.s s2,.i nw,.l am n cp,.i sn]/\LK X W.1.size s1 s2 nw sn am n os
 |15=>∃z:Nat,v=.p z 0/\W.1.size<=z/\AE X z 5 (AV [.s ⟨#[]⟩,.s ⟨#[]⟩,.i 0,.l none 0 0,.i 0])/\LL X z
 |_=>True
theorem Abj{p1 p2 p3 p6 p7 p8 p9 Ej El Ei Ed Eh Ek Ey Ev Ew Ex EM EH EI EV Er EB ER ES EQ EC ED Eo EW EU EK EL:Value}{mk:(Nat->Value)->Array Value}(t0:Nat->Value)(R:Nat)(ad:OA)(nn cap p:Nat)(Bb:Nat)(Y:Bk)(b1 b2 b3:OA)(k1 k2 k3:Nat)(W:World)(hr:Rd W R ad nn cap p)(hp:p<=600000)(Uw:Bb<W.1.size)(Ol:¬Bb=R)(By:AE W Bb 5 (AV (JR Y b1 b2 b3 k1 k2 k3)))(hY:Ip W Y b1 b2 b3 k3)(Dg:mk=λt=>#[.p R 0,p1,p2,p3,.p Bb 0,t 15,p6,p7,p8,p9,t 0,t 1,t 2,t 3,t 4,t 5,t 6,t 7,t 8,t 9,t 10,t 11,t 12,t 13,t 14,Ej,El,Ei,Ed,Eh,Ek,Ey,Ev,Ew,Ex,EM,EH,EI,EV,Er,EB,ER,ES,EQ,EC,ED,Eo,EW,EU,EK,EL])(Q:Exit->Act->World->Prop)(hQ:∀(t:Nat->Value)(z:Nat)(s1 s2:ByteArray)(nw sn:Int)(am:OA)(n cp:Nat)(os:Nat->Ob)(pz:Nat) X,t 15=.p z 0->W.1.size<=z->AE X z 5 (AV [.s s1,.s s2,.i nw,.l am n cp,.i sn])->LK X W.1.size s1 s2 nw sn am n os->AB (λq=>q=R) W X->p<=pz->pz<=p+48->Rd X R ad nn cap pz->Q .normal ⟨mk t,[]⟩ X):Code.wp prog (rg Tryz.f14 2) Q ⟨mk t0,[]⟩ W:=by
 have Le:=hr.lt;refine Hz Zc 16 21 3 mk t0 R ad nn cap p (tg R Bb Y b1 b2 b3 k1 k2 k3 W) (λa X=>∃(t:Nat->Value)(z:Nat)(s1 s2:ByteArray)(nw sn:Int)(am:OA)(n cp:Nat)(os:Nat->Ob)(pz:Nat),a=⟨mk t,[]⟩/\t 15=.p z 0/\W.1.size<=z/\AE X z 5 (AV [.s s1,.s s2,.i nw,.l am n cp,.i sn])/\LK X W.1.size s1 s2 nw sn am n os/\AB (λq=>q=R) W X/\p<=pz/\pz<=p+48/\Rd X R ad nn cap pz) Zc Zc Zc ?_ rfl hr ?_ ?_ ?_ ?_;all_goals subst Dg
 .intro i v X Z p' hi h hF Lb hR hX;iterate 16 (rcases i with _|i;.first|exact h|exact h.fr hF Za|(obtain⟨g,k,s,e,y1,y2,y3,y4⟩:=h;exact⟨g,k,s,e,y1,Aa y2 hF.size,y3,(hF.cell (p:=⟨g,k,none⟩) y2 (λq=>by have q:g=R:=q;omega)).trans y4⟩)|(obtain⟨s1,s2,nw,sn,am,n,cp,os,e,hm⟩:=h;exact⟨s1,s2,nw,sn,am,n,cp,os,e,hm.fr hF (λq e=>by omega)⟩)|(obtain⟨z,e,z1,z2,z3⟩:=h;exact⟨z,e,z1,z2.fr2 hF Za,z3.fr hF z2.lt Za⟩))
  omega
 .intro i hi t X K p' hb CO Dj AW hg hK;rcases(Afm i Za)with rfl|rfl|rfl|rfl|rfl|rfl|rfl|rfl|rfl|rfl|rfl|rfl|rfl|rfl|rfl|rfl;.exact jm
  .have h:=hK (.l (some ⟨X.1.size,0,none⟩) 3 3) (X.alloc (.cells (Hw vy).toArray 9)) p' A9 Za ((SL.new X vy).mono2 hb.size) (Aj Do) (AW.below Do);refine Au rfl rfl ?_;clear hK hg;go_simp;simpa[AX,Hw,vy]using h
  .exact Di
  .have AY:t 2=_:=hg 2 (AR rfl);exact Abk
  .obtain⟨g,cp,g1,y1,y2,y3,y4,y5⟩:=hg 1 (AR rfl);obtain⟨k,hk,g3⟩:=hg 3 (AR rfl);have hL:vy.length=3:=rfl;rw[hL]at g1;have h:=hK (.pointer (some ⟨g,k,none⟩)) X p' A9 Za ⟨g,k,vy[k]'Zbd,rfl,y1,y2,Acl (Fd _),y5 k Zbd⟩ (AB.refl _ _) AW;exact et
  .obtain⟨g,k,s,g4,y1,y2,y3,y4⟩:=hg 4 (AR rfl);exact wE
  .have h:=hK (.l (some ⟨X.1.size,0,none⟩) 2 2) (X.alloc (.cells (Hw d_).toArray 9)) p' A9 Za ((SL.new X d_).mono2 hb.size) (Aj Do) (AW.below Do);refine Au rfl rfl ?_;clear hK hg;go_simp;simpa[AX,Hw,d_]using h
  .exact Di
  .have AY:t 7=_:=hg 7 (AR rfl);refine Au rfl rfl ?_;have HK:=Ab hK;have HR:=Ab AW;clear hK hg AW;go_simp;go_at_call 16;refine(Bt R ad nn cap p' 2 X HR Za Zb Zb).mono ?_;exact qu
  .obtain⟨g,cp,g1,y1,y2,y3,y4,y5⟩:=hg 6 (AR rfl);obtain⟨k,hk,g3⟩:=hg 8 (AR rfl);have hL:d_.length=2:=rfl;rw[hL]at g1;have h:=hK (.pointer (some ⟨g,k,none⟩)) X p' A9 Za ⟨g,k,d_[k]'Zbd,rfl,y1,y2,Abc (Fd _),y5 k Zbd⟩ (AB.refl _ _) AW;exact et
  .obtain⟨g,k,s,g4,y1,y2,y3,y4⟩:=hg 9 (AR rfl);exact wE
  .exact Di
  .have AY:t 11=_:=hg 11 (AR rfl);exact Abk
  .obtain⟨s1,h1,g5⟩:=hg 5 (AR rfl);obtain⟨s2,h2,g10⟩:=hg 10 (AR rfl);obtain⟨k,hk,g12⟩:=hg 12 (AR rfl);have h:=hK (.agg #[.s s1,.s s2,.i 0,.l none 0 0,.i k]) X p' A9 Za ⟨s1,s2,k,rfl,h1,h2,hk⟩ (AB.refl _ _) AW;refine Au rfl rfl ?_;clear hK hg;go_simp;simpa[AX,g5,g10,g12]using h
  .have AY:t 0=_:=hg 0 (AR rfl);obtain⟨s1,s2,k,g13,h1,h2,hk⟩:=hg 13 (AR rfl);have HY:=Ab (hY.pick hb hr.ns);have iv:=hb.size;refine Au rfl rfl ?_;have HK:=Ab hK;have HR:=Ab AW;clear hK hg AW;go_simp;go_at_call 12;refine(Jt Y b1 b2 b3 k1 k2 k3 ⟨s1,s2,0,0,λ_=>Ah9,k⟩ none 0 _ _ _ rfl rfl rfl X 0 X.1.size A9 HY.f (by have:=(PM HY.v).1;omega) (by show(s2.size:Int)<=_;omega) HY.i (by show((0:Nat):Int)<=_;omega) (λi hi=>absurd hi (Ae _)) (λi hi=>absurd hi (Ae _))).mono ?_;rintro r Z ⟨am,cp,g,A,C,hb',rfl,DR,hq,Nt⟩;have h:=HK (.agg #[.s s1,.s s2,.i (Is Y),.l am (Dw Y s1 s2).length cp,.i k]) Z p' A9 Za ⟨s1,s2,_,_,am,_,cp,_,rfl,Adc HY.v HY.f h1 h2 hk (Bh.to (DR.isIn hq) (λ_ _ _ _=>rfl) iv A9)⟩ (Aj Nt) (HR.below Nt);simpa[AX,AY,g13]using h
  .have h:=hK (.p (X.1.size) 0) (X.alloc (.cells #[.s ⟨#[]⟩,.s ⟨#[]⟩,.i 0,.l none 0 0,.i 0] 25)) p' A9 Za ⟨X.1.size,rfl,hb.size,AE.new (l:=[.s ⟨#[]⟩,.s ⟨#[]⟩,.i 0,.l none 0 0,.i 0]) (t:=25) Dx,LL.new X⟩ (Aj Do) (AW.below Do);exact JC
 .intro t X K p' hb CO Dj AW hg hK;obtain⟨s1,s2,nw,sn,am,n,cp,os,fZ,hM⟩:=hg 14 Za Za;obtain⟨z,g15,hz,Tm,hsh⟩:=hg 15 Za Za;have rf:=Tm.free;have rl:=Tm.lt;obtain⟨r0,r1,r2,r3,r4⟩:=JQ Tm;have R5:=(((((Tm.set (o:=0) Za (.s s1)).set (o:=1) Za (.s s2)).set (o:=2) Za (.i nw)).set (o:=3) Za (.l am n cp)).set (o:=4) Za (.i sn));have F5:=(((((hb.far hz 0 (.s s1)).far hz 1 (.s s2)).far hz 2 (.i nw)).far hz 3 (.l am n cp)).far hz 4 (.i sn));have D5:=(hr.far (hr.far (hr.far (hr.far (hr.far AW hz 0 (.s s1)) hz 1 (.s s2)) hz 2 (.i nw)) hz 3 (.l am n cp)) hz 4 (.i sn));obtain⟨os',M5⟩:=hM.put Tm hsh am n cp ((((((AB.refl (λq=>q=z) X).setCell (p:=⟨z,0,none⟩) rfl (.s s1)).setCell (p:=⟨z,1,none⟩) rfl (.s s2)).setCell (p:=⟨z,2,none⟩) rfl (.i nw)).setCell (p:=⟨z,3,none⟩) rfl (.l am n cp)).setCell (p:=⟨z,4,none⟩) rfl (.i sn)) R5;have h:=hK _ _ ⟨t,z,s1,s2,nw,sn,am,n,cp,os',p',rfl,g15,hz,⟨R5.lt,R5.free,λj hj=>by rw[R5.cell j hj];rcases(VU j Za)with rfl|rfl|rfl|rfl|rfl<;>rfl⟩,M5,F5,CO,Za,D5⟩;have HK:=Ab h;clear hK hg Tm h R5 F5 D5 M5;refine Au rfl rfl ?_;go_simp;simpa[fZ,g15]using HK.out
 .intro h;omega
 .rintro a X ⟨t,z,s1,s2,nw,sn,am,n,cp,os,pz,rfl,z1,z2,z3,z4,z5,z6,z7,z8⟩;exact hQ t z s1 s2 nw sn am n cp os pz X z1 z2 z3 z4 z5 z6 z7 z8
end Go.Proofs.YtdknjmgdgnmhjaaGreat
