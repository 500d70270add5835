import Derived.Test.YtofencldleijcaaGreatPk17
import Derived.Deep.AppendSrc
import Derived.Maps.AppendAt
set_option maxRecDepth 100000
namespace Go.Proofs.YtofencldleijcaaGreat
open Go.RowKit Go.Proofs.Tryz
theorem AM.congr{w:World}{g m:Nat}{c d:Nat->Value}(h:AM w g m c)(e:∀j,j<m->c j=d j):AM w g m d:=⟨h.lt,h.free,λj hj=>(h.cell j hj).trans (congrArg some (e j hj))⟩
def Cd (c:Nat->Value)(m:Nat)(d:Nat->Value)(j:Nat):Value:=if j<m then c j else d (j-m)
theorem JA (c d:Nat->Value)(m k:Nat):Ay m c++Ay k d=Ay (m+k) (Cd c m d):=by
 apply MH;.simp[Ay]
 .intro j h1 h2;have hj:j<m+k:=by simpa[Ay]using h2
  rw[CF,List.getElem_append];unfold Cd;by_cases h:j<m;.rw[dif_pos (by rw[AK];exact h),CF,if_pos h]
  .rw[dif_neg (by rw[AK];exact h),if_neg h,CF];simp only[AK]
theorem BR.cells{P:Program}{w:World}{lo hi:Nat}{ad:OA}{n z cap:Nat}{c:Nat->Value}(h:BR w lo hi ad (n*z) c)(hz:0<z):(Builtin.firstCells z n (.l ad n cap)).run P w=.ok (Ay (n*z) c).toArray w:=by cases ad with
 |none=>
  have h0:n=0:=by
   rcases BF n with h0|h0;.exact h0
   .obtain⟨b,off,e,_⟩:=h.at_ 0 (Nat.mul_pos h0 hz);cases e
  subst h0;rw[run_firstCells_none];simp[Ay]
 |some a=>refine run_firstCells_some w z n a n cap _ (by rw[AK]) (λj v hv=>?_);obtain⟨h1,rfl⟩:=Jn hv;obtain⟨b,off,e,_,_,e4⟩:=h.at_ j h1;cases e;rw[show((⟨b,off,none⟩:Addr).add j)=⟨b,off+j,none⟩by simp[Addr.add]];exact e4
theorem BR.drew{w:World}{lo hi:Nat}{ad:OA}{m:Nat}{c:Nat->Value}(h:BR w lo hi ad m c):BR w.drew lo hi ad m c:=⟨λj hj=>h.at_ j hj,h.one⟩
theorem BR.src{P:Program}{w:World}{lo hi:Nat}{ad:OA}{n z cap:Nat}{c:Nat->Value}(h:BR w lo hi ad (n*z) c)(hz:0<z){t e:TypeId}(ht:P.underlying t=some (.slice e)):Src P z t (.l ad n cap) n (Ay (n*z) c) w:=⟨.inl ⟨e,ht⟩,λ_=>rfl,h.cells hz,h.drew.cells hz,by rw[AK],λu hu=>by obtain⟨j,hj,rfl⟩:=CI.1 hu;exact h.one j (by simpa using hj)⟩
theorem Yp{P:Prop}(h:P:=by have:=LZ w.drew ((Ay (n*z+m*z) (Cd c (n*z) d)).toArray++Builtin.zeroCells zv.cells (grownCap w (n+m) cap e-(n+m))) e 0 0 j;rw[show w.drew.1.size=w.1.size from rfl]at this;simpa using this):P:=h
theorem Mc{P:Program}(w:World)(t ty e:TypeId)(z bytes:Nat)(zv:Value)(ht:P.underlying t=some (.slice e))(hinf:(P.info? e).map (λi=>(i.zero,i.size,i.bytes))=some (some zv,z,bytes))(hz:0<z)(lo hi lo2 hi2:Nat)(ad:OA)(n cap:Nat)(c:Nat->Value)(hc:BR w lo hi ad (n*z) c)(ad2:OA)(m cap2:Nat)(d:Nat->Value)(hd:BR w lo2 hi2 ad2 (m*z) d)(hg:cap<n+m)(h63:((n+m:Nat):Int)<=9223372036854775807)(hb:(n+m)*bytes<=140737488355328):∃cap' w',(Builtin.append_ #[t,t] ty #[.l ad n cap,.l ad2 m cap2]).run P w=.ok (.l (some ⟨w.1.size,0,none⟩) (n+m) cap') w'/\AM w' w.1.size ((n+m)*z) (Cd c (n*z) d)/\Below w.1.size w w'/\n+m<=cap'/\(zv.cells.size=z->Fk w' w.1.size (cap'*z)):=by
 obtain⟨i0,hi0,hz0,hz1,hz2⟩:=info_parts hinf;have hrun:=run_append_grow_src (P:=P) w t t ty e i0 zv ht hi0 hz0 ad n cap (Ay (n*z) c) (by rw[hz1];exact hc.drew.cells hz) (.l ad2 m cap2) m (Ay (m*z) d) (by rw[hz1];exact hd.src hz ht) hg h63 (growslice_fits hg (by rw[hz2];exact hb));rw[JA]at hrun;have hcg:=grownCap_ge w (n+m) cap e;refine⟨_,_,hrun,⟨?_,λj=>?_,λj hj=>?_⟩,((Al _ _).drew).alloc Bg _,hcg,λhzs=>⟨λj hj=>?_,λj=>?_,?_⟩⟩;.rw[Au];exact Bj _
 .exact Yp
 .have:=Ao w.drew ((Ay (n*z+m*z) (Cd c (n*z) d)).toArray++Builtin.zeroCells zv.cells (grownCap w (n+m) cap e-(n+m))) e j;rw[show w.drew.1.size=w.1.size from rfl]at this;have hj':j<n*z+m*z:=by rw[Nat.add_mul]at hj;exact hj
  rw[this,Gm (by simp[AK,hj']),Ac,BN (by rw[AK];exact hj'),CF]
 .have:=Ao w.drew ((Ay (n*z+m*z) (Cd c (n*z) d)).toArray++Builtin.zeroCells zv.cells (grownCap w (n+m) cap e-(n+m))) e j;rw[show w.drew.1.size=w.1.size from rfl]at this;have hs:((Ay (n*z+m*z) (Cd c (n*z) d)).toArray++Builtin.zeroCells zv.cells (grownCap w (n+m) cap e-(n+m))).size=grownCap w (n+m) cap e*z:=by rw[Array.size_append,size_zeroCells,hzs,BU,AK,<-Nat.add_mul,<-Nat.add_mul];congr 1;omega
  rw[this,DF Zb];exact⟨_,rfl⟩
 .exact Yp
 .rw[Au];exact Bj _
theorem K7{P:Program}(w:World)(t ty e:TypeId)(z bytes:Nat)(zv:Value)(ht:P.underlying t=some (.slice e))(hinf:(P.info? e).map (λi=>(i.zero,i.size,i.bytes))=some (some zv,z,bytes))(hz:0<z)(lo hi b:Nat)(ad:OA)(n cap:Nat)(c:Nat->Value)(hc:BR w lo hi ad (n*z) c)(h63:(n:Int)<=9223372036854775807)(hb:n*bytes<=140737488355328):∃ad' cap' w',(Builtin.append_ #[t,t] ty #[.l (some ⟨b,0,none⟩) 0 0,.l ad n cap]).run P w=.ok (.l ad' n cap') w'/\(0<n->ad'=some ⟨w.1.size,0,none⟩/\AM w' w.1.size (n*z) c)/\Below w.1.size w w'/\n<=cap'/\(n=0->cap'=0)/\(0<n->zv.cells.size=z->Fk w' w.1.size (cap'*z))/\(∃g,ad'=some ⟨g,0,none⟩/\(n=0->g=b)):=by
 rcases BF n with h0|h0
 .subst h0;obtain⟨i0,hi0,hz0,hz1,hz2⟩:=info_parts hinf;have hs:Src P z t (.l ad 0 cap) 0 [] w:=by have:=hc.src (cap:=cap) hz ht;rw[IY]at this;exact this
  have hrun:=run_append_room_src (P:=P) w t t ty e i0 ht hi0 b 0 0 0 (.l ad 0 cap) 0 [] (by rw[hz1];exact hs) Bg (λj hj=>absurd hj (Ai _)) (λj hj=>absurd hj (Ai _));exact⟨_,_,_,hrun,λh=>absurd h (AJ _),Al _ _,Az _,λ_=>rfl,λh=>absurd h (AJ _),⟨_,rfl,λ_=>rfl⟩⟩
 .obtain⟨cap',w',h1,h2,h3,h4,h5⟩:=Mc (P:=P) w t ty e z bytes zv ht hinf hz 0 0 lo hi (some ⟨b,0,none⟩) 0 0 (λ_=>undef) ⟨λj hj=>absurd hj (by rw[IY];exact Ai _),λj hj=>absurd hj (by rw[IY];exact Ai _)⟩ ad n cap c hc Zb Zb (by rw[Bq];exact hb);rw[Bq]at h1 h2 h4;refine⟨_,cap',w',h1,λ_=>⟨rfl,h2.congr (λj _=>?_)⟩,h3,h4,λh=>absurd h Zb,λ_=>h5,⟨_,rfl,λh=>absurd h Zb⟩⟩;unfold Cd;rw[IY,if_neg (Ai _),Nat.sub_zero]
structure Rw (w:World)(ad:OA)(g n cap z:Nat)(c:Nat->Value):Prop where
 addr:0<cap->ad=some ⟨g,0,none⟩le:n<=cap
 room:0<cap->Fk w g (cap*z)cell:∀j,j<n*z->w.cell? ⟨g,j,none⟩=some (c j)
theorem Rw.fr{w w':World}{ad:OA}{g n cap z:Nat}{c:Nat->Value}{P:Nat->Prop}(h:Rw w ad g n cap z c)(hf:AB P w w')(hp:0<cap->¬P g):Rw w' ad g n cap z c:=⟨h.addr,h.le,λh0=>⟨λj hj=>by obtain⟨u,hu⟩:=(h.room h0).has j hj;exact⟨u,(hf.cell (p:=⟨g,j,none⟩) (h.room h0).lt (hp h0)).trans hu⟩,λj=>(hf.frozen (p:=⟨g,j,none⟩) (h.room h0).lt (hp h0)).trans ((h.room h0).free j),Ad (h.room h0).lt hf.size⟩,λj hj=>by
  have h0:0<cap:=by
   rcases BF n with e|e;.subst e;simp at hj
   .exact Ad e h.le
  exact(hf.cell (p:=⟨g,j,none⟩) (h.room h0).lt (hp h0)).trans (h.cell j hj)⟩
theorem Rw.grow{w w':World}{ad:OA}{g n cap z:Nat}{c:Nat->Value}(h:Rw w ad g n cap z c)(hf:Below w.1.size w w'):Rw w' ad g n cap z c:=h.fr (Ap (P:=λ_=>False) hf) (λ_ h=>h)
theorem Rw.rowF{w:World}{ad:OA}{g n cap z:Nat}{c:Nat->Value}(h:Rw w ad g n cap z c)(hn:0<n):ad=some ⟨g,0,none⟩/\AM w g (n*z) c:=have h0:0<cap:=Ad hn h.le
 ⟨h.addr h0,(h.room h0).lt,λj=>(h.room h0).free j,h.cell⟩
theorem Rw.src{w:World}{ad:OA}{g n cap z:Nat}{c:Nat->Value}(h:Rw w ad g n cap z c)(h1:∀j,j<n*z->(c j).oneCell'=true):BR w g (g+1) ad (n*z) c:=⟨λj hj=>by have hn:0<n:=Nat.pos_of_ne_zero (λe=>by subst e;simp at hj);exact⟨g,0,(h.rowF hn).1,Az _,Bj _,by rw[Bq];exact h.cell j hj⟩,h1⟩
theorem O8{P:Program}(w:World)(t ty e:TypeId)(z bytes:Nat)(zv:Value)(ht:P.underlying t=some (.slice e))(hinf:(P.info? e).map (λi=>(i.zero,i.size,i.bytes))=some (some zv,z,bytes))(hz:0<z)(hzv:zv.cells.size=z)(ad:OA)(g n cap:Nat)(c:Nat->Value)(h:Rw w ad g n cap z c)(h1:∀j,j<n*z->(c j).oneCell'=true)(lo2 hi2:Nat)(ad2:OA)(m cap2:Nat)(d:Nat->Value)(hd:BR w lo2 hi2 ad2 (m*z) d)(hm:0<m)(h63:((n+m:Nat):Int)<=9223372036854775807)(hb:(n+m)*bytes<=140737488355328):∃ad' cap' g' w',(Builtin.append_ #[t,t] ty #[.l ad n cap,.l ad2 m cap2]).run P w=.ok (.l ad' (n+m) cap') w'/\Rw w' ad' g' (n+m) cap' z (Cd c (n*z) d)/\AB (λq=>0<cap/\q=g) w w'/\((0<cap/\g'=g)\/w.1.size<=g'):=by
 by_cases hroom:n+m<=cap
 .have hc0:0<cap:=Zb;have rm:=h.room hc0;have had:=h.addr hc0;subst had;obtain⟨i0,hi0,hz0,hz1,hz2⟩:=info_parts hinf;have hle:(n+m)*z<=cap*z:=Nat.mul_le_mul_right z hroom;have hex:(n+m)*z=n*z+m*z:=Nat.add_mul n m z;have hrun:=run_append_room_src (P:=P) w t t ty e i0 ht hi0 g 0 n cap (.l ad2 m cap2) m (Ay (m*z) d) (by rw[hz1];exact hd.src hz ht) hroom (λj hj=>by rw[AK]at hj;obtain⟨u,hu⟩:=rm.has (n*z+j) Zb;rw[hz1,show 0+n*z+j=n*z+j by omega,hu];rfl) (λj hj=>rm.free _);rw[hz1,show 0+n*z=n*z by omega]at hrun;have hin:∀j,j<m*z->(w.setCells g (n*z) (Ay (m*z) d)).cell? ⟨g,n*z+j,none⟩=some (d j):=λj hj=>by have:=DX g (Ay (m*z) d) (n*z) w (λj hj=>by rw[AK]at hj;obtain⟨u,hu⟩:=rm.has (n*z+j) Zb;rw[hu];rfl) j (by rw[AK];exact hj);rw[CF]at this;exact this
  have hout:∀j,(j<n*z\/n*z+m*z<=j)->(w.setCells g (n*z) (Ay (m*z) d)).cell? ⟨g,j,none⟩=w.cell? ⟨g,j,none⟩:=λj hj=>ET g _ (n*z) w ⟨g,j,none⟩ (λ_ _=>by rw[AK];rcases hj with hj|hj;exact AO hj;exact AD hj);refine⟨_,_,g,_,hrun,⟨λ_=>rfl,hroom,λ_=>⟨λj hj=>?_,λj=>by rw[Fq];exact rm.free _,by rw[Ey];exact rm.lt⟩,λj hj=>?_⟩,LY (Fv g _ (n*z) w) (λk h1 h2=>⟨hc0,Zb⟩),AO ⟨hc0,rfl⟩⟩
  .by_cases hj1:j<n*z\/n*z+m*z<=j;.rw[hout j hj1];exact rm.has j hj
   .obtain⟨q,rfl⟩:∃q,j=n*z+q:=⟨j-n*z,Zb⟩;exact⟨_,hin q Zb⟩
  .unfold Cd;by_cases hj1:j<n*z;.rw[if_pos hj1,hout j (AO hj1)];exact h.cell j hj1
   .obtain⟨q,rfl⟩:∃q,j=n*z+q:=⟨j-n*z,Zb⟩;rw[if_neg hj1,hin q Zb,DY]
 .obtain⟨cap',w',hrun,hrow,hb',hle,hrm⟩:=Mc (P:=P) w t ty e z bytes zv ht hinf hz g (g+1) lo2 hi2 ad n cap c (h.src h1) ad2 m cap2 d hd Zb h63 hb;exact⟨_,cap',w.1.size,w',hrun,⟨λ_=>rfl,hle,λ_=>hrm hzv,λj hj=>hrow.cell j hj⟩,Ap hb',AD Bg⟩
def iF (c:Nat->Value)(i z:Nat)(d:Nat->Value)(j:Nat):Value:=if j<i*z then c j else if j<i*z+z then d (j-i*z)else c (j-z)
theorem BR.take{w:World}{lo hi:Nat}{ad:OA}{m k:Nat}{c:Nat->Value}(h:BR w lo hi ad m c)(hk:k<=m):BR w lo hi ad k c:=⟨λj hj=>h.at_ j Zb,λj hj=>h.one j Zb⟩
theorem BR.belowR{w w':World}{lo hi B:Nat}{ad:OA}{m:Nat}{c:Nat->Value}(h:BR w lo hi ad m c)(hb:Below B w w')(hB:hi<=B):BR w' lo hi ad m c:=⟨λj hj=>by obtain⟨b,off,e1,e2,e3,e4⟩:=h.at_ j hj;exact⟨b,off,e1,e2,e3,(hb.cell (p:=⟨b,off+j,none⟩) (by show b<B;omega)).trans e4⟩,h.one⟩
theorem Mx{P:Program}{ops:Array Oper}{Q:Exit->Act->World->Prop}{i:Nat}{K:Act->World->Prop}{a:Act}{w:World}{o:Oper}(ho:ops[i]?=some o)(hg:o.guard=none)(s x:Operand)(t tx:TypeId)(hop:o.op=.call {callee:=.builtin .append,args:=#[s,x],argTypes:=#[t,tx]})(v xv v2:Value)(w2:World)(hs:a.eval s=v)(hx:a.eval x=xv)(hr:(Builtin.append_ #[t,tx] o.type #[v,xv]).run P w=.ok v2 w2)(h:K (a.put o.dst v2) w2):wpOp P ops Q i K a w:=by refine Ar ho hg ?_;unfold Oper.wp execOp;simp only[hop,resolve,invoke,builtin,Sem.run_bind,IV,Lw,ME,List.map_cons,List.map_nil,hs,hx,hr];exact h
structure rE (W:World)(a b c d:Bool)(va vb vc vd:Value)(RA RB RC RD:Value->World->Prop)(X:World):Prop where
 ra:a=true->c=false->RA va X
 rb:b=true->c=false->RB vb X
 sep:a=true->b=true->c=false->∀g h n k m,va=.l (some ⟨g,0,none⟩) n k->0<k->vb=.l (some ⟨h,0,none⟩) m m->g≠h
 rc:c=true->d=false->RC vc X
 rd:d=true->RD vd X
def qX (n a b c d:Nat)(ops:Array Oper)(mk:(Nat->Value)->Array Value)(W:World)(PV:Nat->Value->Prop)(RA RB RC RD:Value->World->Prop)(Fin:Act->World->Prop)(l:Array Bool)(ac:Act)(X:World):Prop:=l.size=n+1/\(∀i j,Cf ops i j->l.getD i false=true->l.getD j false=true)/\(l.getD n false=true->(∀i,i<n+1->l.getD i false=true)/\Fin ac X)/\(l.getD n false=false->∃t:Nat->Value,ac=⟨mk t,[]⟩/\Below W.1.size W X/\(∀i,i<n->l.getD i false=true->PV i (t i))/\rE W (l.getD a false) (l.getD b false) (l.getD c false) (l.getD d false) (t a) (t b) (t c) (t d) RA RB RC RD X)
theorem TA{P:Program}{id:Nat}{ops:Array Oper}{Q:Exit->Act->World->Prop}{a0:Act}{W:World}(hm:P.follows .mixedOrders=true)(n a b c d:Nat)(hlt:(a<b/\b<c)/\(c<d/\d<n))(wca:Cf ops c a)(wcb:Cf ops c b)(wdc:Cf ops d c)(mk:(Nat->Value)->Array Value)(t0:Nat->Value)(PV:Nat->Value->Prop)(RA RB RC RD:Value->World->Prop)(Fin:Act->World->Prop)(hn:ops.size=n+1)(hord:((List.range ops.size).all λi=>match ops[i]? with|some o=>o.after.all (λe=>decide (e.on<i))|none=>true)=true)(hanc:((List.range n).all λj=>(List.range (n+1)).any λk=>match ops[k]? with|some o=>decide (j<k)&&o.after.any (λe=>Region.binds .any e&&e.on==j)|none=>false)=true)(gA:∀v X Y,RA v X->Below X.1.size X Y->RA v Y)(gB:∀v X Y,RB v X->Below X.1.size X Y->RB v Y)(gC:∀v X Y,RC v X->Below X.1.size X Y->RC v Y)(gD:∀v X Y,RD v X->Below X.1.size X Y->RD v Y)(bA:∀g n k X,RA (.l (some ⟨g,0,none⟩) n k) X->0<k->g<X.1.size)(bB:∀h m X,RB (.l (some ⟨h,0,none⟩) m m) X->h<X.1.size)(h0:a0=⟨mk t0,[]⟩)(sp:∀i,i<n->i≠a->i≠b->i≠c->i≠d->∀(t:Nat->Value) X K,Below W.1.size W X->(∀j,Cf ops i j->PV j (t j))->(∀v Y,PV i v->Below X.1.size X Y->K ⟨mk (AN t i v),[]⟩ Y)->wpOp P ops Q i K ⟨mk t,[]⟩ X)(sa:∀(t:Nat->Value) X K,Below W.1.size W X->(∀j,Cf ops a j->PV j (t j))->(∀v Y,PV a v->RA v Y->(∀g n k,v=.l (some ⟨g,0,none⟩) n k->0<k->X.1.size<=g)->Below X.1.size X Y->K ⟨mk (AN t a v),[]⟩ Y)->wpOp P ops Q a K ⟨mk t,[]⟩ X)(sb:∀(t:Nat->Value) X K,Below W.1.size W X->(∀j,Cf ops b j->PV j (t j))->(∀v Y,PV b v->RB v Y->(∀h m,v=.l (some ⟨h,0,none⟩) m m->X.1.size<=h)->Below X.1.size X Y->K ⟨mk (AN t b v),[]⟩ Y)->wpOp P ops Q b K ⟨mk t,[]⟩ X)(sc:∀(t:Nat->Value) X K,Below W.1.size W X->(∀j,Cf ops c j->PV j (t j))->RA (t a) X->RB (t b) X->(∀g h n k m,t a=.l (some ⟨g,0,none⟩) n k->0<k->t b=.l (some ⟨h,0,none⟩) m m->g≠h)->(∀v Y,PV c v->RC v Y->Below W.1.size X Y->K ⟨mk (AN t c v),[]⟩ Y)->wpOp P ops Q c K ⟨mk t,[]⟩ X)(sd:∀(t:Nat->Value) X K,Below W.1.size W X->(∀j,Cf ops d j->PV j (t j))->RC (t c) X->(∀v Y,PV d v->RD v Y->Below W.1.size X Y->K ⟨mk (AN t d v),[]⟩ Y)->wpOp P ops Q d K ⟨mk t,[]⟩ X)(sl:∀(t:Nat->Value) X K,Below W.1.size W X->(∀j,j<n->PV j (t j))->RD (t d) X->(∀ac Y,Fin ac Y->K ac Y)->wpOp P ops Q n K ⟨mk t,[]⟩ X)(hfin:∀ac X,Fin ac X->Q .normal ac X):(Code.region id ops true).wp P Q a0 W:=by
 have hdep:∀i j,i<n+1->Cf ops i j->j<i:=by rintro i j hi ⟨o,ho,e,he,_,rfl⟩;have h1:=Bt.1 hord i (Bc.2 Zb);rw[ho]at h1;exact of_decide_eq_true (A9.1 h1 e he)
 refine CA hm (qX n a b c d ops mk W PV RA RB RC RD Fin) ?_ ?_ ?_ ?_
 .have hz:∀i,(Array.replicate ops.size false).getD i false=false:=λi=>by simp[Array.getD]
  refine⟨by simp[hn],λi j _ h=>?_,λh=>?_,λ_=>⟨t0,h0,(Al _ _).drew,λi _ h=>?_,?_⟩⟩;.rw[hz]at h;cases h
  .rw[hz]at h;cases h
  .rw[hz]at h;cases h
  .simp only[hz];exact⟨λh=>KW,λh=>KW,λh=>KW,λh=>KW,λh=>KW⟩
 .rintro l ac X ⟨hs,_⟩;rw[hs,hn]
 .rintro l ac X ⟨hs,_,h6,_⟩ hr;have AL:=CC hord (by rw[hs,hn]) hr;exact hfin ac X (h6 (AL n Zb)).2
 .rintro l ac X i ⟨hs,hcl,h6,hg⟩ hr;obtain⟨hu,o,ho,hall⟩:=mem_ready.1 hr;have di:∀j,Cf ops i j->l.getD j false=true:=by
   rintro j ⟨o',ho',e,he,hb,rfl⟩;rw[ho]at ho';obtain rfl:o=o':=by simpa using ho'
   exact hall e he hb
  have hi7:i<n+1:=by
   rcases At i (n+1)with h|h;.exact h
   .rw[AP Zb]at ho;cases ho
  have hui:l.getD i false=false:=by have:l.getD i true=false:=hu;simpa[Array.getD,hs,hi7]using this
  have l6:l.getD n false=false:=by cases h:l.getD n false with
   |false=>rfl
   |true=>rw[(h6 h).1 i hi7]at hui;cases hui
  obtain⟨t,rfl,hb,gg,S⟩:=hg l6;have kp:∀j,¬j=i->(l.setIfInBounds i true).getD j false=l.getD j false:=λj hj=>by rw[BM Zb,if_neg hj]
  have ki:(l.setIfInBounds i true).getD i false=true:=by rw[BM Zb,if_pos rfl]
  have hs':(l.setIfInBounds i true).size=n+1:=by simp[hs]
  have ku:∀j,l.getD j false=true->(l.setIfInBounds i true).getD j false=true:=λj h=>by
   by_cases e:j=i;.subst e;exact ki
   .rw[kp j e];exact h
  have hcl':∀p j,Cf ops p j->(l.setIfInBounds i true).getD p false=true->(l.setIfInBounds i true).getD j false=true:=λp j hj h=>by
   by_cases e:p=i;.subst e;exact ku j (di j hj)
   .rw[kp p e]at h;exact ku j (hcl p j hj h)
  have dpv:∀j,Cf ops i j->PV j (t j):=λj hj=>gg j (by have:=hdep i j hi7 hj;omega) (di j hj);have notc:l.getD a false=false\/l.getD b false=false->l.getD c false=false:=λh=>by cases hc:l.getD c false with
   |false=>rfl
   |true=>
    have h1:=hcl c a wca hc;have h2:=hcl c b wcb hc;rcases h with h|h;.rw[h]at h1;cases h1
    .rw[h]at h2;cases h2
  have notd:l.getD c false=false->l.getD d false=false:=λh=>by cases hc:l.getD d false with
   |false=>rfl
   |true=>have h1:=hcl d c wdc hc;rw[h]at h1;cases h1
  by_cases hin:i=n
  .subst hin;have al:=λj hj=>PI (f:=λj=>l.getD j false=true) hanc hcl di i j Zb hj;clear hr hu ho h6 hg;refine sl t X _ hb (λj hj=>gg j hj (al j hj)) (S.rd (al d hlt.2.2)) (λac Y hY=>⟨hs',hcl',λ_=>⟨λj hj=>?_,hY⟩,λh=>?_⟩)
   .by_cases e:j=i;.subst e;exact ki
    .exact ku j (al j Zb)
   .rw[ki]at h;cases h
  have hno:(l.setIfInBounds i true).getD n false=false:=by rw[kp n (λe=>hin e.symm)];exact l6
  have pv':∀v,PV i v->∀j,j<n->(l.setIfInBounds i true).getD j false=true->PV j (AN t i v j):=λv hv j j1 h=>by
   by_cases e:j=i;.subst e;rw[BE];exact hv
   .rw[kp j e]at h;rw[BO e];exact gg j j1 h
  have noN:∀{p:Prop},(l.setIfInBounds i true).getD n false=true->p:=λh=>by rw[hno]at h;cases h
  clear hr hu ho h6 hg;by_cases ea:i=a
  .subst ea;have hc0:=notc (AO hui);refine sa t X _ hb dpv (λv Y hpv hra hnew hY=>⟨hs',hcl',λh=>noN h,λ_=>⟨AN t i v,rfl,hb.trans (hY.mono hb.size),pv' v hpv,?_⟩⟩);rw[ki,kp b Zb,kp c Zb,kp d Zb,BE,BO (show¬b=i by omega),BO (show¬c=i by omega),BO (show¬d=i by omega)];exact⟨λ_ _=>hra,λh1 h2=>gB _ _ _ (S.rb h1 h2) hY,λ_ h1 h2 g h n k m e1 hk e2=>by have h3:=hnew g n k e1 hk;have h4:=S.rb h1 h2;rw[e2]at h4;have:=bB h m X h4;omega,λh=>(by rw[hc0]at h;cases h),λh=>(by rw[notd hc0]at h;cases h)⟩
  by_cases eb:i=b
  .subst eb;have hc0:=notc (AD hui);refine sb t X _ hb dpv (λv Y hpv hrb hnew hY=>⟨hs',hcl',λh=>noN h,λ_=>⟨AN t i v,rfl,hb.trans (hY.mono hb.size),pv' v hpv,?_⟩⟩);rw[ki,kp a Zb,kp c Zb,kp d Zb,BE,BO (show¬a=i by omega),BO (show¬c=i by omega),BO (show¬d=i by omega)];exact⟨λh1 h2=>gA _ _ _ (S.ra h1 h2) hY,λ_ _=>hrb,λh1 _ h2 g h n k m e1 hk e2=>by have h3:=hnew h m e2;have h4:=S.ra h1 h2;rw[e1]at h4;have:=bA g n k X h4 hk;omega,λh=>(by rw[hc0]at h;cases h),λh=>(by rw[notd hc0]at h;cases h)⟩
  by_cases ec:i=c
  .subst ec;have la:=di a wca;have lb:=di b wcb;have hd0:=notd hui;refine sc t X _ hb dpv (S.ra la hui) (S.rb lb hui) (λg h n k m e1 hk e2=>S.sep la lb hui g h n k m e1 hk e2) (λv Y hpv hrc hY=>⟨hs',hcl',λh=>noN h,λ_=>⟨AN t i v,rfl,hb.trans hY,pv' v hpv,?_⟩⟩);rw[ki,kp a Zb,kp b Zb,kp d Zb,BE,BO (show¬a=i by omega),BO (show¬b=i by omega),BO (show¬d=i by omega)];exact⟨λ_ h=>KW,λ_ h=>KW,λ_ _ h=>KW,λ_ _=>hrc,λh=>(by rw[hd0]at h;cases h)⟩
  by_cases ed:i=d
  .subst ed;have lc:=di c wdc;refine sd t X _ hb dpv (S.rc lc hui) (λv Y hpv hrd hY=>⟨hs',hcl',λh=>noN h,λ_=>⟨AN t i v,rfl,hb.trans hY,pv' v hpv,?_⟩⟩);rw[ki,kp a Zb,kp b Zb,kp c Zb,BE,BO (show¬a=i by omega),BO (show¬b=i by omega),BO (show¬c=i by omega),lc];exact⟨λ_ h=>KW,λ_ h=>KW,λ_ _ h=>KW,λ_ h=>KW,λ_=>hrd⟩
  .refine sp i Zb ea eb ec ed t X _ hb dpv (λv Y hpv hY=>⟨hs',hcl',λh=>noN h,λ_=>⟨AN t i v,rfl,hb.trans (hY.mono hb.size),pv' v hpv,?_⟩⟩);rw[kp a (λe=>ea e.symm),kp b (λe=>eb e.symm),kp c (λe=>ec e.symm),kp d (λe=>ed e.symm),BO (λe=>ea e.symm),BO (λe=>eb e.symm),BO (λe=>ec e.symm),BO (λe=>ed e.symm)];exact⟨λh1 h2=>gA _ _ _ (S.ra h1 h2) hY,λh1 h2=>gB _ _ _ (S.rb h1 h2) hY,S.sep,λh1 h2=>gC _ _ _ (S.rc h1 h2) hY,λh1=>gD _ _ _ (S.rd h1) hY⟩
def NV (W:World)(k z:Nat)(c:Nat->Value)(v:Value)(X:World):Prop:=∃ad g cp,v=.l ad k cp/\Rw X ad g k cp z c/\(0<cp->W.1.size<=g)
def dH (W:World)(z:Nat)(d:Nat->Value)(v:Value)(X:World):Prop:=∃b,v=.l (some ⟨b,0,none⟩) 1 1/\W.1.size<=b/\b<X.1.size/\BR X b (b+1) (some ⟨b,0,none⟩) (1*z) d
theorem NV.grow{W X Y:World}{k z:Nat}{c:Nat->Value}{v:Value}(h:NV W k z c v X)(hb:Below X.1.size X Y):NV W k z c v Y:=by obtain⟨ad,g,cp,e,r,l⟩:=h;exact⟨ad,g,cp,e,r.grow hb,l⟩
theorem dH.grow{W X Y:World}{z:Nat}{d:Nat->Value}{v:Value}(h:dH W z d v X)(hb:Below X.1.size X Y):dH W z d v Y:=by obtain⟨b,e,l,u,s⟩:=h;exact⟨b,e,l,Ad u hb.size,s.belowR hb u⟩
theorem NV.lt{W X:World}{k z:Nat}{c:Nat->Value}{g n q:Nat}(h:NV W k z c (.l (some ⟨g,0,none⟩) n q) X)(hq:0<q):g<X.1.size:=by obtain⟨ad,g',cp,e,r,_⟩:=h;cases e;have:=r.addr hq;cases this;exact(r.room hq).lt
theorem dH.lt{W X:World}{z:Nat}{d:Nat->Value}{h m:Nat}(h':dH W z d (.l (some ⟨h,0,none⟩) m m) X):h<X.1.size:=by obtain⟨b,e,_,u,_⟩:=h';cases e;exact u
theorem Nq{P:Program}(W X:World)(hbW:Below W.1.size W X)(t ty e:TypeId)(z bytes:Nat)(zv:Value)(ht:P.underlying t=some (.slice e))(hinf:(P.info? e).map (λi=>(i.zero,i.size,i.bytes))=some (some zv,z,bytes))(hz:0<z)(hzv:zv.cells.size=z)(lo hi b:Nat)(ad:OA)(k cap:Nat)(c:Nat->Value)(hc:BR X lo hi ad (k*z) c)(h63:(k:Int)<=9223372036854775807)(hb:k*bytes<=140737488355328):∃v Y,(Builtin.append_ #[t,t] ty #[.l (some ⟨b,0,none⟩) 0 0,.l ad k cap]).run P X=.ok v Y/\NV W k z c v Y/\(∀g n q,v=.l (some ⟨g,0,none⟩) n q->0<q->X.1.size<=g)/\Below X.1.size X Y:=by
 obtain⟨ad',cap',w',hrun,hrow,hb',hcl,hcz,hrm,_⟩:=K7 (P:=P) X t ty e z bytes zv ht hinf hz lo hi b ad k cap c hc h63 hb;refine⟨_,w',hrun,⟨ad',X.1.size,cap',rfl,⟨λh=>?_,hcl,λh=>?_,λj hj=>?_⟩,λ_=>hbW.size⟩,λg n q e hq=>?_,hb'⟩;.exact(hrow Zb).1
 .exact hrm Zb hzv
 .have hk:0<k:=Nat.pos_of_ne_zero (λe=>by subst e;simp at hj);exact(hrow hk).2.cell j hj
 .cases e;have:=(hrow Zb).1;cases this;exact Az _
theorem Lb{P:Program}(W X:World)(hbW:Below W.1.size W X)(t ty e:TypeId)(z bytes:Nat)(zv:Value)(ht:P.underlying t=some (.slice e))(hinf:(P.info? e).map (λi=>(i.zero,i.size,i.bytes))=some (some zv,z,bytes))(hz:0<z)(hzv:zv.cells.size=z)(k:Nat)(c:Nat->Value)(h1:∀j,j<k*z->(c j).oneCell'=true)(v:Value)(h:NV W k z c v X)(lo2 hi2:Nat)(ad2:OA)(m cap2:Nat)(d:Nat->Value)(hd:BR X lo2 hi2 ad2 (m*z) d)(hkm:0<k\/0<m)(h63:((k+m:Nat):Int)<=9223372036854775807)(hb:(k+m)*bytes<=140737488355328):∃v' Y,(Builtin.append_ #[t,t] ty #[v,.l ad2 m cap2]).run P X=.ok v' Y/\NV W (k+m) z (Cd c (k*z) d) v' Y/\Below W.1.size X Y:=by
 obtain⟨ad,g,cp,rfl,r,l⟩:=h;have zX:=hbW.size;rcases BF m with h0|h0
 .subst h0;have hk:0<k:=Zb;have hcp:0<cp:=Ad hk r.le;have had:=r.addr hcp;subst had;obtain⟨i0,hi0,hz0,hz1,hz2⟩:=info_parts hinf;have hs:Src P z t (.l ad2 0 cap2) 0 [] X:=by have:=hd.src (cap:=cap2) hz ht;rw[IY]at this;exact this
  have hrun:=run_append_room_src (P:=P) X t t ty e i0 ht hi0 g 0 k cp (.l ad2 0 cap2) 0 [] (by rw[hz1];exact hs) r.le (λj hj=>absurd hj (Ai _)) (λj hj=>absurd hj (Ai _));refine⟨_,_,hrun,⟨_,g,cp,rfl,⟨λ_=>rfl,r.le,r.room,λj hj=>?_⟩,l⟩,Al _ _⟩;have hj':j<k*z:=hj;rw[Cd,if_pos hj'];exact r.cell j hj'
 .obtain⟨ad',cap',g',w',hrun,hrw,hf,hg⟩:=O8 (P:=P) X t ty e z bytes zv ht hinf hz hzv ad g k cp c r h1 lo2 hi2 ad2 m cap2 d hd h0 h63 hb;refine⟨_,w',hrun,⟨ad',g',cap',rfl,hrw,λ_=>?_⟩,hf.below (λq hq hP=>?_) zX⟩
  .rcases hg with⟨h3,rfl⟩|h3;.exact l h3
   .omega
  .have:=l hP.1;omega
theorem bG (c d:Nat->Value)(k n z j:Nat)(_hk:k<=n)(_hj:j<(k+1+(n-k))*z):Cd (Cd c (k*z) d) ((k+1)*z) (λj=>c (k*z+j)) j=iF c k z d j:=by
 have e1:(k+1)*z=k*z+z:=by rw[Nat.add_mul,Nat.one_mul]
 unfold Cd iF;by_cases h1:j<k*z;.rw[if_pos Zb,if_pos h1,if_pos h1]
 .by_cases h2:j<k*z+z;.rw[if_pos Zb,if_neg h1,if_neg h1,if_pos h2]
  .rw[if_neg Zb,if_neg h1,if_neg h2];exact congrArg c Zb
theorem CE{P:Program}{ops:Array Oper}{Q:Exit->Act->World->Prop}{i:Nat}{K:Act->World->Prop}{a:Act}{w:World}{o:Oper}(ho:ops[i]?=some o)(hg:o.guard=none)(s x:Operand)(t tx:TypeId)(hop:o.op=.call {callee:=.builtin .append,args:=#[s,x],argTypes:=#[t,tx]}){v xv v2:Value}{w2:World}(hs:a.eval s=v)(hx:a.eval x=xv)(hr:(Builtin.append_ #[t,tx] o.type #[v,xv]).run P w=.ok v2 w2)(h:K (a.put o.dst v2) w2):wpOp P ops Q i K a w:=Mx ho hg s x t tx hop v xv v2 w2 hs hx hr h
end Go.Proofs.YtofencldleijcaaGreat
