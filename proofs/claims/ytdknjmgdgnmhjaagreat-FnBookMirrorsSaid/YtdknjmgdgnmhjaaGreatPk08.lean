import Derived.Test.YtdknjmgdgnmhjaaGreatPk06
import Derived.Test.YtdknjmgdgnmhjaaGreatPk07
import Derived.Maps.AppendAt
import Derived.Deep.Cut
import Derived.Deep.CutRange
import Derived.Deep.RegionLaw
set_option maxRecDepth 100000
set_option maxHeartbeats 4000000
namespace Go.Proofs.YtdknjmgdgnmhjaaGreat
open Go.RowKit Go.Maps Go.Proofs.Tryz
variable {w w':World}{e z n lo hi g cap b' k cap' m:Nat}{v v':Value}{P:Nat→Prop}{ad ad':OA}{s:Nat→ByteArray}{c:Nat→Value}{b a:ByteArray}{x y:Nat→Ob}{A:Nat→Option Addr}{C hb:Nat→Nat}
theorem BB{row:Option Nat}(h:w.grownBy w' row):AB (λq=>row=some q) w w':=⟨h.os,h.tape,h.output,h.size,λk hk ho=>h.block k hk (λe=>ho e.symm)⟩
theorem GU{base:Nat}{xs:List Value}(h:w.ownsRow base e z v n xs)(hf:AB P w w')(hp:∀g,v.ownBlock=some g->¬P g):w'.ownsRow base e z v n xs:=by
 refine⟨h.1,?_⟩;rcases h.2 with h0|⟨g,cap,cur,rfl,h1,h2,h3⟩;.exact AA h0
 .exact Az ⟨g,cap,cur,rfl,h1,(hf.block g (AM.1 h2).1 (hp g rfl)).trans h2,h3⟩
theorem BA.one (h:BA w lo hi ad n s):∃b,BA w b (b+1) ad n s/\(n≠0->lo<=b/\b<hi):=by
 by_cases h0:n=0;.subst h0;exact⟨0,BA.zero,λh=>absurd rfl h⟩
 .obtain⟨b,off,e1,e2,e3,_⟩:=h 0 Za;refine⟨b,λi hi=>?_,λ_=>⟨e2,e3⟩⟩;obtain⟨b',off',f1,f2,f3,f4⟩:=h i hi;rw[e1]at f1;cases f1;exact⟨b,off,e1,AG _,BE _,f4⟩
theorem DI (w:World)(l:List Value)(t:TypeId):∀j u,l[j]?=some u->(w.alloc (.cells l.toArray t)).cell? ((⟨w.1.size,0,none⟩:Addr).add j)=some u:=by intro j u h;rw[show((⟨w.1.size,0,none⟩:Addr).add j)=⟨w.1.size,j,none⟩by unfold Addr.add;split<;>simp_all,Al];simpa using h
def SS (c:Nat->Value)(m:Nat)(news:List Value):Nat->Value:=λj=>if j<m then c j else news.getD (j-m) (.i 0)
theorem Tp (c:Nat->Value)(m:Nat)(news:List Value):SS c m news m=news.getD 0 (.i 0):=by unfold SS;rw[if_neg (Bc _),CA]
theorem FQ (c:Nat->Value)(m:Nat)(news:List Value)(j:Nat):SS c m news (m+j)=news.getD j (.i 0):=by unfold SS;rw[if_neg Za,Ez]
theorem GD (c:Nat->Value)(m:Nat)(news:List Value):AN m c++news=AN (m+news.length) (SS c m news):=by
 apply Qo;.simp[AN]
 .intro j h1 h2;have hj:j<m+news.length:=by simpa[AN]using h2
  rw[Dr,List.getElem_append];unfold SS;by_cases h:j<m;.rw[dif_pos Zch,Dr,if_pos h]
  .rw[dif_neg Zch,if_neg h];simp only[Bq];rw[IA,CR Za];rfl
theorem JK{base:Nat}(h:w.ownsRow base e z (.l (some ⟨g,0,none⟩) n cap) n (AN (n*z) c)):AE w g (n*z) c:=by refine⟨(h.lt g rfl).2,λj=>h.frozenAt j,λj hj=>?_⟩;rw[h.cellAt j hj,CR Zbq,Dr]
theorem ls.frB{base b:Nat}(h:ls w base ad n cap)(hs:BA w b (b+1) ad n s)(hf:AB P w w')(hp:n≠0->¬P b):ls w' base ad n cap:=by
 refine⟨h.le,h.z,λh0=>?_⟩;have hn:n≠0:=λe=>by have:=h.z e;omega
 obtain⟨g,e,hg,rm⟩:=h.rm h0;obtain⟨b',off,e',l1,l2,_⟩:=hs 0 Za;rw[e]at e';injection e' with e';injection e' with e1 e2;have QM:g=b:=Za;refine⟨g,e,hg,⟨λj hj=>?_,λj=>(hf.frozen (p:=⟨g,j,none⟩) rm.lt (QM▸hp hn)).trans (rm.free j),Aa rm.lt hf.size⟩⟩;obtain⟨u,hu⟩:=rm.has j hj;exact⟨u,(hf.cell (p:=⟨g,j,none⟩) rm.lt (QM▸hp hn)).trans hu⟩
theorem ls.base{base:Nat}(h:ls w base ad n cap)(hb:b'<=base):ls w b' ad n cap:=⟨h.le,h.z,λh0=>by obtain⟨g,e,hg,rm⟩:=h.rm h0;exact⟨g,e,Za,rm⟩⟩
structure Nd (w:World)(base:Nat)(v:Value)(k:Nat)(x:Nat->Ob)(A:Nat->Option Addr)(C hb:Nat->Nat):Prop where
 row:∃c,w.ownsRow base 52 7 v k (AN (k*7) c)/\∀i,i<k->L0 c i (x i) (A i) (C i)hold:∀i,i<k->BA w (hb i) (hb i+1) (A i) (x i).hn (x i).hs
 hlt:∀i,i<k->(x i).hn≠0->base<=hb i/\hb i<w.1.size
 ne:∀i,i<k->(x i).hn≠0->v.ownBlock≠some (hb i)inj:∀i j,i<k->j<k->(x i).hn≠0->(x j).hn≠0->hb i=hb j->i=j
 rm:∀i,i<k->ls w base (A i) (x i).hn (C i)
theorem Nd.fr{base:Nat}(h:Nd w base v k x A C hb)(hf:AB P w w')(hp:∀q,base<=q->q<w.1.size->¬P q):Nd w' base v k x A C hb:=⟨by obtain⟨c,r,e⟩:=h.row;exact⟨c,GU r hf (λg hg=>hp g (r.lt g hg).1 (r.lt g hg).2),e⟩,λi hi=>(h.hold i hi).frP hf (λh0=>⟨hp _ (h.hlt i hi h0).1 (h.hlt i hi h0).2,(h.hlt i hi h0).2⟩),λi hi h0=>⟨(h.hlt i hi h0).1,Aa (h.hlt i hi h0).2 hf.size⟩,h.ne,h.inj,λi hi=>(h.rm i hi).frB (h.hold i hi) hf (λh0=>hp _ (h.hlt i hi h0).1 (h.hlt i hi h0).2)⟩
theorem Nd.grow{base:Nat}(h:Nd w base v k x A C hb)(hf:Below w.1.size w w'):Nd w' base v k x A C hb:=h.fr (Aj (P:=λ_=>False) hf) (λ_ _ _ h=>h)
theorem Nd.app{base:Nat}(h:Nd w base v k x A C hb)(DR:∀i,i<k->L0 c i (x i) (A i) (C i))(ho:w'.ownsRow base 52 7 v' (k+1) (AN (k*7) c++[.s (x k).k,.s (x k).n,.i (x k).t,.i (x k).b,.s (x k).m,.bool (x k).e,.l ad' (x k).hn cap']))(hg:w.grownBy w' v.ownBlock)(hw:v'.ownBlock=v.ownBlock\/v'.ownBlock=some w.1.size)(hs:BA w b' (b'+1) ad' (x k).hn (x k).hs)(hl:(x k).hn≠0->base<=b'/\b'<w.1.size)(hv:(x k).hn≠0->v.ownBlock≠some b')(hd:∀i,i<k->(x i).hn≠0->(x k).hn≠0->hb i≠b')(bS:ls w base ad' (x k).hn cap'):Nd w' base v' (k+1) x (Cl A k ad') (Cl C k cap') (Cl hb k b'):=by
 have F:=BB hg;refine⟨⟨SS c (k*7) [.s (x k).k,.s (x k).n,.i (x k).t,.i (x k).b,.s (x k).m,.bool (x k).e,.l ad' (x k).hn cap'],?_,λi hi=>?_⟩,λi hi=>?_,λi hi h0=>?_,λi hi h0=>?_,λi j hi hj h0 h1 e=>?_,λi hi=>?_⟩
 .rw[GD]at ho;have e:k*7+([.s (x k).k,.s (x k).n,.i (x k).t,.i (x k).b,.s (x k).m,.bool (x k).e,.l ad' (x k).hn cap']:List Value).length=(k+1)*7:=by show k*7+7=_;omega
  rw[e]at ho;exact ho
 .exact P'
 .exact Aa7
 .exact Abu
 .exact Abi
 .exact Ac5
 .by_cases hik:i=k;.subst hik;simp only[Bf];exact bS.frB hs F (λh0 e=>hv h0 e)
  .simp only[BC _ _ hik];exact(h.rm i Za).frB (h.hold i Za) F (λh0 e=>h.ne i Za h0 e)
theorem Nd.done{base:Nat}(h:Nd w base v k x A C hb):∃ad cap g,v=.l ad k cap/\D4 w ad g k x A C hb/\∀q,Fm g k (λi=>(x i).hn) hb q->base<=q:=by exact Ae0
structure FI (w:World)(base:Nat)(v:Value)(k:Nat)(x:Nat->Ch)(A:Nat->Option Addr)(C hb:Nat->Nat):Prop where
 row:∃c,w.ownsRow base 54 9 v k (AN (k*9) c)/\∀i,i<k->OK c i (x i) (A i) (C i)hold:∀i,i<k->BA w (hb i) (hb i+1) (A i) (x i).ob.hn (x i).ob.hs
 hlt:∀i,i<k->(x i).ob.hn≠0->base<=hb i/\hb i<w.1.size
 ne:∀i,i<k->(x i).ob.hn≠0->v.ownBlock≠some (hb i)inj:∀i j,i<k->j<k->(x i).ob.hn≠0->(x j).ob.hn≠0->hb i=hb j->i=j
theorem FI.fr{base:Nat}{x:Nat->Ch}(h:FI w base v k x A C hb)(hf:AB P w w')(hp:∀q,base<=q->q<w.1.size->¬P q):FI w' base v k x A C hb:=⟨by obtain⟨c,r,e⟩:=h.row;exact⟨c,GU r hf (λg hg=>hp g (r.lt g hg).1 (r.lt g hg).2),e⟩,λi hi=>(h.hold i hi).frP hf (λh0=>⟨hp _ (h.hlt i hi h0).1 (h.hlt i hi h0).2,(h.hlt i hi h0).2⟩),λi hi h0=>⟨(h.hlt i hi h0).1,Aa (h.hlt i hi h0).2 hf.size⟩,h.ne,h.inj⟩
theorem FI.grow{base:Nat}{x:Nat->Ch}(h:FI w base v k x A C hb)(hf:Below w.1.size w w'):FI w' base v k x A C hb:=h.fr (Aj (P:=λ_=>False) hf) (λ_ _ _ h=>h)
theorem FI.app{base:Nat}{x:Nat->Ch}(h:FI w base v k x A C hb)(DR:∀i,i<k->OK c i (x i) (A i) (C i))(ho:w'.ownsRow base 54 9 v' (k+1) (AN (k*9) c++[.i (x k).t,.bool (x k).g,.s (x k).ob.k,.s (x k).ob.n,.i (x k).ob.t,.i (x k).ob.b,.s (x k).ob.m,.bool (x k).ob.e,.l ad' (x k).ob.hn cap']))(hg:w.grownBy w' v.ownBlock)(hw:v'.ownBlock=v.ownBlock\/v'.ownBlock=some w.1.size)(hs:BA w b' (b'+1) ad' (x k).ob.hn (x k).ob.hs)(hl:(x k).ob.hn≠0->base<=b'/\b'<w.1.size)(hv:(x k).ob.hn≠0->v.ownBlock≠some b')(hd:∀i,i<k->(x i).ob.hn≠0->(x k).ob.hn≠0->hb i≠b'):FI w' base v' (k+1) x (Cl A k ad') (Cl C k cap') (Cl hb k b'):=by
 have F:=BB hg;refine⟨⟨SS c (k*9) [.i (x k).t,.bool (x k).g,.s (x k).ob.k,.s (x k).ob.n,.i (x k).ob.t,.i (x k).ob.b,.s (x k).ob.m,.bool (x k).ob.e,.l ad' (x k).ob.hn cap'],?_,λi hi=>?_⟩,λi hi=>?_,λi hi h0=>?_,λi hi h0=>?_,λi j hi hj h0 h1 e=>?_⟩
 .rw[GD]at ho;have e:k*9+([.i (x k).t,.bool (x k).g,.s (x k).ob.k,.s (x k).ob.n,.i (x k).ob.t,.i (x k).ob.b,.s (x k).ob.m,.bool (x k).ob.e,.l ad' (x k).ob.hn cap']:List Value).length=(k+1)*9:=by show k*9+9=_;omega
  rw[e]at ho;exact ho
 .by_cases e:i=k;.subst e;rw[Bf,Bf];exact⟨Tp _ _ _,FQ _ _ _ 1,FQ _ _ _ 2,FQ _ _ _ 3,FQ _ _ _ 4,FQ _ _ _ 5,FQ _ _ _ 6,FQ _ _ _ 7,FQ _ _ _ 8⟩
  .rw[BC _ _ e,BC _ _ e];obtain⟨a0,a1,a2,a3,a4,a5,a6,a7,a8⟩:=DR i Za;exact⟨(if_pos Za).trans a0,(if_pos Za).trans a1,(if_pos Za).trans a2,(if_pos Za).trans a3,(if_pos Za).trans a4,(if_pos Za).trans a5,(if_pos Za).trans a6,(if_pos Za).trans a7,(if_pos Za).trans a8⟩
 .exact Aa7
 .exact Abu
 .exact Abi
 .exact Ac5
theorem FI.done{base:Nat}{x:Nat->Ch}(h:FI w base v k x A C hb):∃ad cap g,v=.l ad k cap/\k<=cap/\IQ w ad g k x A C hb/\∀q,Fm g k (λi=>(x i).ob.hn) hb q->base<=q:=by
 obtain⟨c,r,DR⟩:=h.row;rcases r.2 with⟨rfl,rfl⟩|⟨g,cap,cur,rfl,h1,_,Eg,_⟩;.exact⟨none,0,0,rfl,AG _,⟨λh0=>absurd h0 (Bc _),λh0=>absurd h0 (Bc _),λi hi=>absurd hi (Ae _),λi hi=>absurd hi (Ae _),⟨λi hi=>absurd hi (Ae _),λi j hi=>absurd hi (Ae _)⟩⟩,λq hq=>by
   rcases hq with⟨h0,_⟩|⟨i,hi,_⟩;.exact absurd h0 (Bc _)
   .exact absurd hi (Ae _)⟩
 .refine⟨_,cap,g,rfl,Eg,⟨λ_=>rfl,λ_=>⟨c,JK r,DR⟩,h.hold,λi hi h0=>(h.hlt i hi h0).2,⟨λi hi h0 e=>h.ne i hi h0 (by rw[e];rfl),h.inj⟩⟩,λq hq=>?_⟩;rcases hq with⟨h0,rfl⟩|⟨i,hi,h0,rfl⟩;.exact h1
  .exact(h.hlt i hi h0).1
structure PS where
 m:Nat
 y:Nat->Ob
 done:Bool
def CX (o xi:Ob)(s:PS):PS:=if s.done then(if ET xi o=0 then s else⟨s.m+1,Cl s.y s.m xi,true⟩)else if ET xi o<0 then⟨s.m+1,Cl s.y s.m xi,false⟩else if ET xi o=0 then⟨s.m+1,Cl s.y s.m o,true⟩else⟨s.m+1+1,Cl (Cl s.y s.m o) (s.m+1) xi,true⟩
def EP (x:Nat->Ob)(o:Ob)(gone:Bool):Nat->PS
 |0=>⟨0,λ_=>o,gone⟩
 |i+1=>CX o (x i) (EP x o gone i)
def Na (o:Ob)(s:PS):PS:=if s.done then s else⟨s.m+1,Cl s.y s.m o,true⟩
def DH (n:Nat)(x:Nat->Ob)(o:Ob)(gone:Bool):PS:=Na o (EP x o gone n)
theorem Rf (x:Nat->Ob)(o:Ob)(gone:Bool):∀k,(EP x o gone k).m+(if(EP x o gone k).done then 0 else 1)<=k+1
 |0=>by show 0+(if gone then 0 else 1)<=1;split<;>omega
 |k+1=>by have ih:=Rf x o gone k;show(CX o (x k) (EP x o gone k)).m+(if(CX o (x k) (EP x o gone k)).done then 0 else 1)<=k+1+1;unfold CX;cases hd:(EP x o gone k).done with
  |true=>
   rw[hd]at ih;simp only[if_true]at ih⊢;split;.omega
   .simp;omega
  |false=>
   rw[hd]at ih;simp only[Fo,if_false]at ih⊢;split;.simp;omega
   .split;.simp;omega
    .simp;omega
theorem AK.frP (h:AK w lo hi ad n s)(hf:AB P w w')(hh:hi<=w.1.size)(hp:∀q,q<hi->¬P q):AK w' lo hi ad n s:=λi hi'=>by obtain⟨b,off,e1,e2,e3,e4⟩:=h i hi';exact⟨b,off,e1,e2,e3,(hf.cell (p:=⟨b,off+i,none⟩) (Aa e3 hh) (hp b e3)).trans e4⟩
structure kR (w:World)(base lo hi:Nat)(v:Value)(m:Nat)(y:Nat->Ob)(A:Nat->Option Addr)(C:Nat->Nat):Prop where
 row:∃c,w.ownsRow base 52 7 v m (AN (m*7) c)/\∀i,i<m->L0 c i (y i) (A i) (C i)hold:∀i,i<m->AK w lo hi (A i) (y i).hn (y i).hs
theorem kR.grow{base:Nat}(h:kR w base lo hi v m y A C)(hh:hi<=w.1.size)(hf:Below w.1.size w w'):kR w' base lo hi v m y A C:=⟨by obtain⟨c,r,e⟩:=h.row;exact⟨c,GU r (Aj (P:=λ_=>False) hf) (λ_ _ h=>h),e⟩,λi hi'=>(h.hold i hi').frP (Aj (P:=λ_=>False) hf) hh (λ_ _ h=>h)⟩
theorem kR.app{base:Nat}{o:Ob}(h:kR w base lo hi v m y A C)(DR:∀i,i<m->L0 c i (y i) (A i) (C i))(ho:w'.ownsRow base 52 7 v' (m+1) (AN (m*7) c++[.s o.k,.s o.n,.i o.t,.i o.b,.s o.m,.bool o.e,.l ad' o.hn cap']))(hg:w.grownBy w' v.ownBlock)(hv:∀q,v.ownBlock=some q->base<=q)(hs:AK w lo hi ad' o.hn o.hs)(hhb:hi<=base)(Tn:hi<=w.1.size):kR w' base lo hi v' (m+1) (Cl y m o) (Cl A m ad') (Cl C m cap'):=by
 have F:=BB hg;have np:∀q,q<hi->¬v.ownBlock=some q:=λq hq e=>by have:=hv q e;omega
 refine⟨⟨SS c (m*7) [.s o.k,.s o.n,.i o.t,.i o.b,.s o.m,.bool o.e,.l ad' o.hn cap'],?_,λi hi'=>?_⟩,λi hi'=>?_⟩
 .rw[GD]at ho;have e:m*7+([.s o.k,.s o.n,.i o.t,.i o.b,.s o.m,.bool o.e,.l ad' o.hn cap']:List Value).length=(m+1)*7:=by show m*7+7=_;omega
  rw[e]at ho;exact ho
 .by_cases e:i=m
  .subst e;rw[Bf,Bf,Bf];exact wu
  .rw[BC _ _ e,BC _ _ e,BC _ _ e];exact Af0
 .by_cases e:i=m;.subst e;rw[Bf,Bf];exact hs.frP F Tn np
  .rw[BC _ _ e,BC _ _ e];exact(h.hold i Za).frP F Tn np
theorem TD (n:Nat)(x:Nat->Ob)(ad:OA)(cap:Nat)(c:Ch)(adc:OA)(capc:Nat)(w:World)(lo hi:Nat)(CD:hi<=w.1.size)(hl:(n:Int)<=1048576)(hc:Bh w lo hi ad n x)(hcs:AK w lo hi adc c.ob.hn c.ob.hs):Calls prog 23 #[.l ad n cap,.agg (vH c adc capc)] w λe w'=>∃v A C,e=.returned v/\kR w' (w.1.size+1) lo hi v (DH n x c.ob c.g).m (DH n x c.ob c.g).y A C/\Below w.1.size w w':=by
 obtain⟨i0,Fq,GH,C7,Fk⟩:=info_parts Eu;have HC:=Ab hc;have HCS:=Ab hcs;clear hc hcs;go_enter func23,ntmps23;go_wp2;have tX:kR ((w.alloc (.cells (vH c adc capc) 54)).alloc (.cells #[] 52)) (w.1.size+1) lo hi (.l (some ⟨w.1.size+1,0,none⟩) 0 0) 0 (λ_=>c.ob) (λ_=>none) (λ_=>0):=⟨⟨λ_=>.i 0,by simpa[AN]using Dy (base:=w.1.size+1) (e:=52) (size:=7) (w.alloc (.cells (vH c adc capc) 54)) #[] 0 Ze S4 rfl,λi hi=>absurd hi (Ae _)⟩,λi hi=>absurd hi (Ae _)⟩;go_loopw[5,6,7](λo d i wr=>∃(k:Nat)(A:Nat->Option Addr)(C:Nat->Nat),k<=n/\i=.i k/\d=.bool (EP x c.ob c.g k).done/\Below (w.1.size+1) (w.alloc (.cells (vH c adc capc) 54)) wr/\kR wr (w.1.size+1) lo hi o (EP x c.ob c.g k).m (EP x c.ob c.g k).y A C)(λ_ _ i _=>n-(intOf i).toNat);case atStart=>exact⟨0,_,_,Ar _,rfl,rfl,by simpa using Ak (w.alloc (.cells (vH c adc capc) 54)) (.cells #[] 52),tX⟩
 case round=>
  clear tX;obtain⟨k,A,C,hk,rfl,rfl,b0,bd⟩:=hrel;have IK:Below w.1.size w wr:=(Ak _ _).trans (b0.mono Za);have JP:w.1.size+1<=wr.1.size:=by have:=b0.size;simpa using this
  have Om:=Rf x c.ob c.g k;have LE:=Ab Om;have o2:=Ay Zbv 2;have o3:=Ay Zbv 3;have o4:=Ay Zbv 4;have o5:=Ay Zbv 5;have o6:=Ay Zbv 6;have o7:=Ay Zbv 7;have o8:=Ay Zbv 8;simp only[Ah,Ai,Af]at o2 o3 o4 o5 o6 o7 o8;obtain⟨S,hS⟩:∃S,EP x c.ob c.g k=S:=⟨_,rfl⟩;rw[hS]at bd LE⊢;have HS:=Ab hS;clear hS Om;have BD:=Ab bd;clear bd;by_cases B7:k<n
  .obtain⟨b,off,ah,ch,rfl,Gc,Ja,Dh,Il⟩:=HC k B7;obtain⟨d0,d1,d2,d3,d4,d5,d6⟩:=Dh.below IK Za;have HX:=Ab Dh;have So:=Ab Il;clear Dh Il;have x0:=Aq d0 Zj;have x1:=Aq d1 Zj;have x2:=Aq d2 Zj;have x3:=Aq d3 Zj;have x4:=Aq d4 Zj;have x5:=Aq d5 Zj;have x6:=Aq d6 Zj;have y2:=Aq o2 Zf;have y3:=Aq o3 Zf;have y4:=Aq o4 Zf;have y5:=Aq o5 Zf;have y6:=Aq o6 Zf;have y7:=Aq o7 Zf;have y8:=Aq o8 Zf;have CF:Nonempty (GW wr):=⟨⟨_,Ap _ _⟩⟩;go_wp2;refine AP Zc Zc ?_;repeat(go_big_quiet_step((go_at_call 42;go_must(exact B4 (Mo (x k) c.ob _ _ _ _ _)))))
   refine wpQuiet_nil ?_;rintro w1 ⟨u,hu⟩;have Lg:Below wr.1.size wr w1:=hu▸u.prop;clear hu u CF x0 x1 x2 x3 x4 x5 x6 y2 y3 y4 y5 y6 y7 y8;have z1:=Lg.size;have b1:=b0.trans (Lg.mono Za);have MS:Below w.1.size w w1:=(Ak _ _).trans (b1.mono Za);have BD1:=Ab (BD.grow Za Lg);have Ag1:=Ab (So.below MS CD);have Adv:=Ab (HCS.below MS CD);obtain⟨e0,e1,e2,e3,e4,e5,e6⟩:=HX.below MS Za;have p2:=(Lg.cell (p:=⟨w.1.size,2,none⟩) Zf).trans o2;have p3:=(Lg.cell (p:=⟨w.1.size,3,none⟩) Zf).trans o3;have p4:=(Lg.cell (p:=⟨w.1.size,4,none⟩) Zf).trans o4;have p5:=(Lg.cell (p:=⟨w.1.size,5,none⟩) Zf).trans o5;have p6:=(Lg.cell (p:=⟨w.1.size,6,none⟩) Zf).trans o6;have p7:=(Lg.cell (p:=⟨w.1.size,7,none⟩) Zf).trans o7;have p8:=(Lg.cell (p:=⟨w.1.size,8,none⟩) Zf).trans o8;have STEP:=Ab (show EP x c.ob c.g (k+1)=CX c.ob (x k) S by show CX c.ob (x k) (EP x c.ob c.g k)=_;rw[HS.out]);clear d0 d1 d2 d3 d4 d5 d6 o2 o3 o4 o5 o6 o7 o8 Lg BD;obtain⟨kk,hkk⟩:∃kk,ET (x k) c.ob=kk:=⟨_,rfl⟩;rw[hkk];have uz:=Ab hkk;clear hkk;obtain⟨m,y,dn⟩:=S;dsimp only at BD1 LE STEP⊢;cases dn with
   |true=>
    have hm:m<=k+1:=by have:=LE.out;simp at this;omega
    by_cases h0:kk=0
    .subst h0;have E:=Ab (show CX c.ob (x k) ⟨m,y,true⟩=⟨m,y,true⟩by unfold CX;simp[uz.out]);go_wp2;go_roundw;case rel=>exact⟨k+1,_,_,Za,by go_num,by rw[STEP.out,E.out],b1,by rw[STEP.out,E.out];exact BD1⟩
     case measure=>simp[intOf];omega
    .have E:=Ab (show CX c.ob (x k) ⟨m,y,true⟩=⟨m+1,Cl y m (x k),true⟩by unfold CX;simp[uz.out,h0]);exact Aex
   |false=>
    have hm:m<=k:=by have:=LE.out;simp at this;omega
    by_cases Ads:kk<0
    .have E:=Ab (show CX c.ob (x k) ⟨m,y,false⟩=⟨m+1,Cl y m (x k),false⟩by unfold CX;simp[uz.out,Ads]);have ux:¬kk=0:=Za;exact Aex
    .by_cases h0:kk=0
     .subst h0;have E:=Ab (show CX c.ob (x k) ⟨m,y,false⟩=⟨m+1,Cl y m c.ob,true⟩by unfold CX;simp[uz.out]);have BW2:=Ab (BD1.grow Za (Ak w1 (.cells (vO c.ob adc capc) 52)));obtain⟨cc2,BH,If⟩:=BW2.row;have QL:=Ab If;clear If;go_wp2_with (at_builtin;go_must(refine wpList_append_own_at _ rfl _ _ 23 rfl (w.1.size+1) 52 i0 _ 7 96 underlying23 Fq GH C7 Fk rfl Zb _ (m) (AN ((m)*7) cc2) rfl BH ⟨w1.1.size,0,none⟩ 1 1 [.s c.ob.k,.s c.ob.n,.i c.ob.t,.i c.ob.b,.s c.ob.m,.bool c.ob.e,.l adc c.ob.hn capc] rfl rfl (DI w1 _ 52) kG Zl Za Zd ?_;intro v2 u2 Ht Bm Hs Uz;clear Hs Uz));have zu2:=Bm.size;simp only[Av]at zu2;have BD2':=Ab (BW2.app (cap':=capc) QL Ht Bm (λq hq=>(BH.lt q hq).1) ((Adv.out).alloc Za _) Za Zd);have B2':Below (w.1.size+1) (w.alloc (.cells (vH c adc capc) 54)) u2:=(b1.alloc Za _).trans ((BB Bm).below (λq hq e=>by have:=(BH.lt q e).1;omega) Zd);clear BH Ht Bm;go_roundw;case rel=>exact⟨k+1,_,_,Za,by go_num,by rw[STEP.out,E.out],B2',by rw[STEP.out,E.out];exact BD2'⟩
      case measure=>simp[intOf];omega
     .have E:=Ab (show CX c.ob (x k) ⟨m,y,false⟩=⟨m+1+1,Cl (Cl y m c.ob) (m+1) (x k),true⟩by unfold CX;simp[uz.out,Ads,h0]);have BW2:=Ab (BD1.grow Za (Ak w1 (.cells (vO c.ob adc capc) 52)));obtain⟨cc2,BH,If⟩:=BW2.row;have QL:=Ab If;clear If;go_upto_region 10 with(at_builtin;go_must(refine wpList_append_own_at _ rfl _ _ 23 rfl (w.1.size+1) 52 i0 _ 7 96 underlying23 Fq GH C7 Fk rfl Zb _ (m) (AN ((m)*7) cc2) rfl BH ⟨w1.1.size,0,none⟩ 1 1 [.s c.ob.k,.s c.ob.n,.i c.ob.t,.i c.ob.b,.s c.ob.m,.bool c.ob.e,.l adc c.ob.hn capc] rfl rfl (DI w1 _ 52) kG Zl Za Zd ?_;intro v2 u2 Ht Bm Hs Uz;clear Hs Uz));have zu2:=Bm.size;simp only[Av]at zu2;have BD2':=Ab (BW2.app (cap':=capc) QL Ht Bm (λq hq=>(BH.lt q hq).1) ((Adv.out).alloc Za _) Za Zd);have B2':Below (w.1.size+1) (w.alloc (.cells (vH c adc capc) 54)) u2:=(b1.alloc Za _).trans ((BB Bm).below (λq hq e=>by have:=(BH.lt q e).1;omega) Zd);clear BH Ht Bm;clear e0 e1 e2 e3 e4 e5 e6 p2 p3 p4 p5 p6 p7 p8;have Add:Below w.1.size w u2:=(Ak _ _).trans (B2'.mono Za);obtain⟨e0,e1,e2,e3,e4,e5,e6⟩:=HX.below Add Za;have Ag6:=Ab (So.below Add CD);have BW3:=Ab (BD2'.grow Za (Ak u2 (.cells (vO (x k) ah ch) 52)));obtain⟨cc3,IM,kv⟩:=BW3.row;have Ag3:=Ab kv;clear kv;go_wp2_with (at_builtin;go_must(refine wpList_append_own_at _ rfl _ _ 23 rfl (w.1.size+1) 52 i0 _ 7 96 underlying23 Fq GH C7 Fk rfl Zb _ (m+1) (AN ((m+1)*7) cc3) rfl IM ⟨u2.1.size,0,none⟩ 1 1 [.s (x k).k,.s (x k).n,.i (x k).t,.i (x k).b,.s (x k).m,.bool (x k).e,.l ah (x k).hn ch] rfl rfl (DI u2 _ 52) kG Zl Za Zd ?_;intro v3 u3 rF Hl qJ Aho;clear qJ Aho));have zu3:=Hl.size;simp only[Av]at zu3;have BD3':=Ab (BW3.app (cap':=ch) Ag3 rF Hl (λq hq=>(IM.lt q hq).1) ((Ag6.out).alloc Za _) Za Zd);have B3':Below (w.1.size+1) (w.alloc (.cells (vH c adc capc) 54)) u3:=(B2'.alloc Za _).trans ((BB Hl).below (λq hq e=>by have:=(IM.lt q e).1;omega) Zd);clear IM rF Hl;go_roundw;case rel=>exact⟨k+1,_,_,Za,by go_num,by rw[STEP.out,E.out],B3',by rw[STEP.out,E.out];exact BD3'⟩
      case measure=>simp[intOf];omega
  .have rN:k=n:=Za;subst rN;obtain⟨m,y,dn⟩:=S;dsimp only at BD LE⊢;have IK:Below w.1.size w wr:=(Ak _ _).trans (b0.mono Za);have HCSr:=Ab (HCS.below IK CD);have HSE:=Ab (show DH k x c.ob c.g=Na c.ob ⟨m,y,dn⟩by unfold DH;rw[HS.out]);cases dn with
   |true=>have E:=Ab (show Na c.ob ⟨m,y,true⟩=⟨m,y,true⟩from rfl);go_wp2;go_ret;exact⟨_,rfl,⟨A,C,by rw[HSE.out,E.out];exact BD⟩,IK⟩
   |false=>
    have hm:m<=k:=by have:=LE.out;simp at this;omega
    have E:=Ab (show Na c.ob ⟨m,y,false⟩=⟨m+1,Cl y m c.ob,true⟩from rfl);have BW2:=Ab (BD.grow Za (Ak wr (.cells (vO c.ob adc capc) 52)));obtain⟨cc2,BH,If⟩:=BW2.row;have QL:=Ab If;clear If;go_wp2_with (at_builtin;go_must(refine wpList_append_own_at _ rfl _ _ 23 rfl (w.1.size+1) 52 i0 _ 7 96 underlying23 Fq GH C7 Fk rfl Zb _ (m) (AN ((m)*7) cc2) rfl BH ⟨wr.1.size,0,none⟩ 1 1 [.s c.ob.k,.s c.ob.n,.i c.ob.t,.i c.ob.b,.s c.ob.m,.bool c.ob.e,.l adc c.ob.hn capc] rfl rfl (DI wr _ 52) kG Zl Za Zd ?_;intro v2 u2 Ht Bm Hs Uz;clear Hs Uz));have zu2:=Bm.size;simp only[Av]at zu2;have BD2':=Ab (BW2.app (cap':=capc) QL Ht Bm (λq hq=>(BH.lt q hq).1) ((HCSr.out).alloc Za _) Za Zd);have B2':Below (w.1.size+1) (w.alloc (.cells (vH c adc capc) 54)) u2:=(b0.alloc Za _).trans ((BB Bm).below (λq hq e=>by have:=(BH.lt q e).1;omega) Zd);clear BH Ht Bm;go_ret;exact⟨_,_,_,rfl,by rw[HSE.out,E.out];exact BD2',(Ak _ _).trans (B2'.mono Za)⟩
theorem TV{base:Nat}(h:w.ownsRow base e z v n (AN (n*z) c))(hn:0<n):∃g cap,v=.l (some ⟨g,0,none⟩) n cap/\base<=g/\AE w g (n*z) c:=by
 rcases h.2 with⟨rfl,h0⟩|⟨g,cap,cur,rfl,h1,_⟩;.omega
 .exact⟨g,cap,rfl,h1,JK h⟩
theorem gZ{v0 v1 v2 v3 v4:Value}(h:AE w g 5 c):AE (((((w.setCell ⟨g,0,none⟩ v0).setCell ⟨g,1,none⟩ v1).setCell ⟨g,2,none⟩ v2).setCell ⟨g,3,none⟩ v3).setCell ⟨g,4,none⟩ v4) g 5 (AV [v0,v1,v2,v3,v4]):=by have r:=((((h.set (o:=0) Za v0).set (o:=1) Za v1).set (o:=2) Za v2).set (o:=3) Za v3).set (o:=4) Za v4;refine⟨r.lt,r.free,λj hj=>(r.cell j hj).trans (congrArg some ?_)⟩;exact Ui
def Gp (W:World)(B:Nat)(c:Array Value):Prop:=∀i,W.cell? ⟨B,i,none⟩=c[i]?
theorem Gp.below{W W':World}{B:Nat}{c:Array Value}(h:Gp W B c)(hb:Below n W W')(hB:B<n):Gp W' B c:=λi=>(hb.cell (p:=⟨B,i,none⟩) hB).trans (h i)
def IH (x:Bk)(a1 a2 a3:OA)(c1 c2 c3:Nat):Array Value:=(vB x a1 a2 a3 c1 c2 c3)
structure EO where
 ob:Ob
 A:Option Addr
 C:Nat
 hb:Nat
instance:Inhabited EO:=⟨⟨⟨ByteArray.empty,ByteArray.empty,0,0,ByteArray.empty,false,0,λ_=>ByteArray.empty⟩,none,0,0⟩⟩
def Ii (L:List EO)(i:Nat):EO:=(L[i]?).getD default
theorem LZ{L:List EO}{i:Nat}(h:i<L.length):Ii L i=L[i]:=by simp[Ii,h]
structure FX (w:World)(g:Nat)(L:List EO):Prop where
 lt:g<w.1.size
 free:∀j,w.frozen? ⟨g,j,none⟩=false
 ob:∀i,i<L.length->DF w g (i*7) (Ii L i).ob (Ii L i).A (Ii L i).C
theorem DF.frP{b o:Nat}{x:Ob}(h:DF w b o x ad cap)(hf:AB P w w')(hb:b<w.1.size)(hp:¬P b):DF w' b o x ad cap:=have e:∀j,w'.cell? ⟨b,j,none⟩=w.cell? ⟨b,j,none⟩:=λj=>hf.cell (p:=⟨b,j,none⟩) hb hp
 ⟨(e _).trans h.c0,(e _).trans h.c1,(e _).trans h.c2,(e _).trans h.c3,(e _).trans h.c4,(e _).trans h.c5,(e _).trans h.c6⟩
theorem FX.fr{L:List EO}(h:FX w g L)(hf:AB P w w')(hp:¬P g):FX w' g L:=⟨Aa h.lt hf.size,λj=>(hf.frozen (p:=⟨g,j,none⟩) h.lt hp).trans (h.free j),λi hi=>(h.ob i hi).frP hf h.lt hp⟩
theorem FX.grow{L:List EO}(h:FX w g L)(hf:Below w.1.size w w'):FX w' g L:=h.fr (Aj (P:=λ_=>False) hf) (λh=>h)
structure G0 (w:World)(L:List EO):Prop where
 hold:∀e,e∈L->BA w e.hb (e.hb+1) e.A e.ob.hn e.ob.hs
 lt:∀e,e∈L->e.ob.hn≠0->e.hb<w.1.size
 ap:L.Pairwise λe f=>e.ob.hn≠0->f.ob.hn≠0->e.hb≠f.hb
theorem G0.fr{L:List EO}(h:G0 w L)(hf:AB P w w')(hp:∀e,e∈L->e.ob.hn≠0->¬P e.hb):G0 w' L:=⟨λe he=>(h.hold e he).frP hf (λh0=>⟨hp e he h0,h.lt e he h0⟩),λe he h0=>Aa (h.lt e he h0) hf.size,h.ap⟩
theorem G0.grow{L:List EO}(h:G0 w L)(hf:Below w.1.size w w'):G0 w' L:=h.fr (Aj (P:=λ_=>False) hf) (λ_ _ _ h=>h)
theorem FX.cellAt{L:List EO}(h:FX w g L){j:Nat}(hj:j<L.length*7):∃v,w.cell? ⟨g,j,none⟩=some v:=by
 have hi:j/7<L.length:=Za;obtain⟨c0,c1,c2,c3,c4,c5,c6⟩:=h.ob (j/7) hi;have hr:j%7=0\/j%7=1\/j%7=2\/j%7=3\/j%7=4\/j%7=5\/j%7=6:=Za;rcases hr with e|e|e|e|e|e|e;.exact⟨_,by rw[show j=j/7*7 by omega];exact c0⟩
 .exact⟨_,by rw[show j=j/7*7+1 by omega];exact c1⟩
 .exact⟨_,by rw[show j=j/7*7+2 by omega];exact c2⟩
 .exact⟨_,by rw[show j=j/7*7+3 by omega];exact c3⟩
 .exact⟨_,by rw[show j=j/7*7+4 by omega];exact c4⟩
 .exact⟨_,by rw[show j=j/7*7+5 by omega];exact c5⟩
 .exact⟨_,by rw[show j=j/7*7+6 by omega];exact c6⟩
def Fb (m:Nat)(y:Nat->Ob):List Ob:=(List.range m).map y
theorem Q4 (m:Nat)(y:Nat->Ob):Fb (m+1) y=Fb m y++[y m]:=by simp[Fb,List.range_succ]
theorem GE (m:Nat)(y:Nat->Ob):(Fb m y).length=m:=by simp[Fb]
theorem N8 (m:Nat)(y:Nat->Ob)(z:Ob):Fb (m+1) (Cl y m z)=Fb m y++[z]:=by
 rw[Q4];have h1:Fb m (Cl y m z)=Fb m y:=by unfold Fb;apply List.map_congr_left;intro i hi;have:=BF.1 hi;exact if_neg Za
 rw[h1];simp[Cl]
theorem K7 (x z:Ob):ET x z<0↔DY x z=true:=by have h:=Xq x z;cases hb:DY x z with
 |true=>rw[hb]at h;simp at h;simp;omega
 |false=>rw[hb]at h;simp at h;simp;omega
theorem K4 (x z:Ob):ET x z=0↔(x.k.toList=z.k.toList/\x.n.toList=z.n.toList):=by
 unfold ET;constructor
 .intro h;split at h;.exact absurd h Zb
  .split at h
   .rename_i h2;split at h;.exact absurd h Zb
    .split at h;.rename_i h3;exact⟨h2,h3⟩
     .exact absurd h Zb
   .exact absurd h Zb
 .rintro⟨h1,h2⟩;rw[if_neg (by rw[IG h1];decide),if_pos h1,if_neg (by rw[IG h2];decide),if_pos h2]
def CV (o y:Ob):Bool:=decide (¬ET y o=0)
def Ih (o:Ob):List Ob->List Ob
 |[]=>[o]
 |y::r=>if DY y o then y::Ih o r else o::(y::r).filter (CV o)
def K3 (o:Ob)(gone:Bool)(l:List Ob):List Ob:=if gone then l.filter (CV o)else Ih o l
theorem PJ{x:Nat->Ob}{o:Ob}:∀n,Fb (EP x o true n).m (EP x o true n).y=(Fb n x).filter (CV o)/\(EP x o true n).done=true
 |0=>⟨rfl,rfl⟩
 |n+1=>by
  obtain⟨h1,h2⟩:=PJ (x:=x) (o:=o) n;rw[Q4,GV];show Fb (CX o (x n) (EP x o true n)).m (CX o (x n) (EP x o true n)).y=_/\(CX o (x n) (EP x o true n)).done=true;unfold CX;rw[h2,if_pos rfl];by_cases hk:ET (x n) o=0;.rw[if_pos hk];exact⟨by rw[h1];simp[CV,hk],h2⟩
  .rw[if_neg hk];exact wR
def KA (o:Ob):List Ob->List Ob×Bool
 |[]=>([],false)
 |y::r=>if DY y o then(y::(KA o r).1,(KA o r).2)else(o::(y::r).filter (CV o),true)
theorem TQ (o z:Ob):∀l,KA o (l++[z])=if(KA o l).2 then((KA o l).1++[z].filter (CV o),true)else if DY z o then((KA o l).1++[z],false)else((KA o l).1++(o::[z].filter (CV o)),true)
 |[]=>by simp only[Dt,KA];cases DY z o<;>simp
 |y::r=>by
  have ih:=TQ o z r;by_cases hb:DY y o=true
  .simp only[Cy,KA,if_pos hb,ih];by_cases h1:(KA o r).2=true;.simp only[if_pos h1]
   .simp only[if_neg h1];by_cases h2:DY z o=true;.simp only[if_pos h2]
    .simp only[if_neg h2]
  .simp only[Cy,KA,if_neg hb,if_true];rw[<-Cy,GV]
theorem wQ (o:Ob):∀l,Ih o l=if(KA o l).2 then(KA o l).1 else(KA o l).1++[o]
 |[]=>rfl
 |y::r=>by
  have ih:=wQ o r;by_cases hb:DY y o=true
  .simp only[Ih,KA,if_pos hb,ih];by_cases h1:(KA o r).2=true;.simp only[if_pos h1]
   .simp only[if_neg h1,Cy]
  .simp only[Ih,KA,if_neg hb,if_true]
theorem Px{x:Nat->Ob}{o:Ob}:∀n,Fb (EP x o false n).m (EP x o false n).y=(KA o (Fb n x)).1/\(EP x o false n).done=(KA o (Fb n x)).2
 |0=>⟨rfl,rfl⟩
 |n+1=>by obtain⟨h1,h2⟩:=Px (x:=x) (o:=o) n;rw[Q4,TQ];show Fb (CX o (x n) (EP x o false n)).m (CX o (x n) (EP x o false n)).y=_/\(CX o (x n) (EP x o false n)).done=_;unfold CX;rw[h2];have kn:=K7 (x n) o;cases hd:(KA o (Fb n x)).2 with
  |true=>
   simp only[if_true];by_cases hk:ET (x n) o=0;.rw[if_pos hk];exact⟨by rw[h1];simp[CV,hk],by rw[h2,hd]⟩
   .rw[if_neg hk];exact wR
  |false=>
   simp only[Fo,if_false];by_cases hn:ET (x n) o<0;.rw[if_pos hn,if_pos (kn.1 hn)];exact⟨by rw[N8,h1],rfl⟩
   .have hb:¬DY (x n) o=true:=λh=>hn (kn.2 h);rw[if_neg hn,if_neg hb];by_cases hk:ET (x n) o=0;.rw[if_pos hk];exact wR
    .rw[if_neg hk];refine⟨?_,rfl⟩;show Fb ((EP x o false n).m+1+1) _=_;rw[N8,N8,h1];simp[CV,hk]
theorem N9 (n:Nat)(x:Nat->Ob)(o:Ob)(gone:Bool):Fb (DH n x o gone).m (DH n x o gone).y=K3 o gone (Fb n x):=by unfold DH Na K3;cases gone with
 |true=>obtain⟨h1,h2⟩:=PJ (x:=x) (o:=o) n;rw[h2];simpa using h1
 |false=>obtain⟨h1,h2⟩:=Px (x:=x) (o:=o) n;simp only[Fo,if_false];rw[h2,wQ];cases hd:(KA o (Fb n x)).2 with
  |true=>simpa using h1
  |false=>simp only[Fo,if_false];rw[N8,h1]
structure Wr where
 op:Int
 k:ByteArray
 n:ByteArray
 s:Int
 m:ByteArray
 hold:ByteArray
abbrev vW (x:Wr):Array Value:=#[.i x.op,.s x.k,.s x.n,.i x.s,.s x.m,.s x.hold]
abbrev vWl (x:Wr):List Value:=[.i x.op,.s x.k,.s x.n,.i x.s,.s x.m,.s x.hold]
structure Q7 (w:Wr):Prop where
 k:(w.k.size:Int)<=140737488355328
 n:(w.n.size:Int)<=140737488355328
 t:(w.m.size:Int)<=140737488355328
 h:(w.hold.size:Int)<=140737488355328
def Vp (s:ByteArray):Bool:=decide (s=⟨#[]⟩)
def QT (w:Wr):Bool:=if w.op=1 then decide (w.s=0)else if w.op=2 then Vp w.hold else if w.op=3 then Vp w.m&&Vp w.hold else if w.op=4 then Vp w.m&&!Vp w.hold else if w.op=5 then Vp w.m&&!Vp w.hold else false
def WY (w:Wr):Bool:=Cc w.k&&(Cc w.n&&(decide (0<=w.s)&&(decide (w.m.size<=300)&&(Vp w.hold||Cc w.hold))))
def N7 (w:Wr):Bool:=WY w&&QT w
theorem G3 (h:a.toList=b.toList):a=b:=by cases a with|mk a=>cases b with|mk b=>
 have h2:a.toList=b.toList:=by simpa[ByteArray.toList_eq]using h
 exact congrArg ByteArray.mk (Array.ext' h2)
theorem xZ{s:ByteArray}(h:¬s=⟨#[]⟩):(s.toList==(⟨#[]⟩:ByteArray).toList)=false:=by cases hb:(s.toList==(⟨#[]⟩:ByteArray).toList)with
 |false=>rfl
 |true=>exact absurd (G3 Zp) h
theorem Ml{s:ByteArray}(h:¬s=⟨#[]⟩):¬s.toList=[]:=λe=>h (G3 (e.trans (by simp[ByteArray.toList_eq])))
def K1 (n:Nat)(s:Nat->ByteArray)(a:ByteArray):Bool:=!Bj (λi=>!decide (s i=a)) n
theorem fK (h:∀i,i<n->¬s i=a):K1 n s a=false:=by unfold K1;rw[AS.2 (λi hi=>by simp[h i hi])];rfl
theorem RE (hk:k<n)(h:s k=a):K1 n s a=true:=by unfold K1;rw[Bd (p:=λi=>!decide (s i=a)) hk (by simp[h])];rfl
theorem zQ (h:¬a=b):(a.toList==b.toList)=false:=by cases hb:(a.toList==b.toList)with
 |false=>rfl
 |true=>exact absurd (G3 Zp) h
theorem K9 (n:Nat)(s:Nat->ByteArray)(ad:OA)(cap:Nat)(a:ByteArray)(w:World)(lo hi:Nat)(hl:(n:Int)<=140737488355328)(hc:AK w lo hi ad n s):Calls prog 83 #[.l ad n cap,.s a] w λe w'=>e=.returned (.bool (K1 n s a))/\w'=w:=by
 go_enter func83,ntmps83;go_wp2;go_loopw[5](λi wr=>∃k:Nat,k<=n/\i=.i k/\wr=w/\∀j,j<k->¬s j=a)(λi _=>n-(intOf i).toNat);case atStart=>exact⟨0,Ar _,rfl,rfl,λj hj=>absurd hj (Ae _)⟩
 case round=>
  obtain⟨k,hk,rfl,rfl,Bg⟩:=hrel;have HA:=Ab Bg;clear Bg;by_cases B7:k<n
  .obtain⟨b,off,rfl,Gc,Ja,Dh⟩:=hc k B7;clear hc;by_cases he:s k=a
   .subst he;have HE:=Ab (RE (a:=s k) B7 rfl);exact Qh
   .have hb:=zQ he;have HN:=Ab he;clear he;go_wp2;go_roundw;case rel=>exact⟨k+1,Za,by go_num,by first|trivial|rfl,λj hj=>(by
     rcases AD j k with h3|h3;.exact HA j h3
     .have:j=k:=Za;subst this;exact HN)⟩
    case measure=>simp[intOf];omega
  .have HE:=Ab (fK (n:=n) (s:=s) (a:=a) (λi hi=>HA.out i Za));clear hc;exact Qh
theorem ta (h:¬a=b):(a.toList==b.toList)=false:=by cases hb:(a.toList==b.toList)with
 |false=>rfl
 |true=>exact absurd (G3 Zp) h
theorem L5:∀{a b c:List UInt8},Op.bytesLess a b=true->Op.bytesLess b c=true->Op.bytesLess a c=true
 |[],_::_,[],_,h=>by simp[Op.bytesLess]at h
 |[],[],_,h,_=>by simp[Op.bytesLess]at h
 |[],_::_,_::_,_,_=>by simp[Op.bytesLess]
 |_::_,[],_,h,_=>by simp[Op.bytesLess]at h
 |_::_,_::_,[],_,h=>by simp[Op.bytesLess]at h
 |p::a,q::b,r::c,h1,h2=>by
  simp only[Op.bytesLess,Jo,As,decide_eq_true_eq,beq_iff_eq]at h1 h2⊢;rcases h1 with h1|⟨h1,gt⟩
  .rcases h2 with h2|⟨h2,_⟩;.exact AA (UInt8.lt_trans h1 h2)
   .exact AA (h2▸h1)
  .rcases h2 with h2|⟨h2,h2'⟩;.exact AA (h1▸h2)
   .exact Az ⟨h1.trans h2,L5 gt h2'⟩
theorem K5{c:ByteArray}(h1:Gt a b=true)(h2:Gt b c=true):Gt a c=true:=L5 h1 h2
end Go.Proofs.YtdknjmgdgnmhjaaGreat
