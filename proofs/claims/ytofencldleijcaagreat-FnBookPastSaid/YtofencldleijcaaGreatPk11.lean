import Derived.Test.YtofencldleijcaaGreatPk06
import Derived.Test.YtofencldleijcaaGreatPk10
import Derived.Maps.AppendAt
import Derived.Test.YtofencldleijcaaGreatPk07
import Derived.Deep.Cut
import Derived.Deep.CutRange
import Derived.Test.YtofencldleijcaaGreatPk02
import Derived.Deep.RegionLaw
import Derived.Test.YtofencldleijcaaGreatPk09
import Derived.Test.YtofencldleijcaaGreatPk05
set_option maxRecDepth 100000
set_option maxHeartbeats 4000000
namespace Go.Proofs.YtofencldleijcaaGreat
open Go.RowKit Go.Proofs.Tryz
theorem Bz{w w':World}{row:Option Nat}(h:w.grownBy w' row):AB (λq=>row=some q) w w':=⟨h.os,h.tape,h.output,h.size,λk hk ho=>h.block k hk (λe=>ho e.symm)⟩
theorem Fm{w w':World}{base e z n:Nat}{v:Value}{xs:List Value}{P:Nat->Prop}(h:w.ownsRow base e z v n xs)(hf:AB P w w')(hp:∀g,v.ownBlock=some g->¬P g):w'.ownsRow base e z v n xs:=by
 refine⟨h.1,?_⟩;rcases h.2 with h0|⟨g,cap,cur,rfl,h1,h2,h3⟩;.exact AO h0
 .exact AD ⟨g,cap,cur,rfl,h1,(hf.block g (AS.1 h2).1 (hp g rfl)).trans h2,h3⟩
theorem Bd.one{w:World}{lo hi:Nat}{ad:OA}{n:Nat}{s:Nat->ByteArray}(h:Bd w lo hi ad n s):∃b,Bd w b (b+1) ad n s/\(n≠0->lo<=b/\b<hi):=by
 by_cases h0:n=0;.subst h0;exact⟨0,Bd.zero,λh=>absurd rfl h⟩
 .obtain⟨b,off,e1,e2,e3,_⟩:=h 0 Zb;refine⟨b,λi hi=>?_,λ_=>⟨e2,e3⟩⟩;obtain⟨b',off',f1,f2,f3,f4⟩:=h i hi;rw[e1]at f1;cases f1;exact⟨b,off,e1,Az _,Bj _,f4⟩
theorem DM (w:World)(l:List Value)(t:TypeId):∀j u,l[j]?=some u->(w.alloc (.cells l.toArray t)).cell? ((⟨w.1.size,0,none⟩:Addr).add j)=some u:=by intro j u h;rw[show((⟨w.1.size,0,none⟩:Addr).add j)=⟨w.1.size,j,none⟩by unfold Addr.add;split<;>simp_all,Ao];simpa using h
def OF (c:Nat->Value)(m:Nat)(news:List Value):Nat->Value:=λj=>if j<m then c j else news.getD (j-m) (.i 0)
theorem Kd (c:Nat->Value)(m:Nat)(news:List Value):OF c m news m=news.getD 0 (.i 0):=by unfold OF;rw[if_neg (AJ _),Nat.sub_self]
theorem Cx (c:Nat->Value)(m:Nat)(news:List Value)(j:Nat):OF c m news (m+j)=news.getD j (.i 0):=by unfold OF;rw[if_neg Zb,DY]
theorem E8 (c:Nat->Value)(m:Nat)(news:List Value):Ay m c++news=Ay (m+news.length) (OF c m news):=by
 apply MH;.simp[Ay]
 .intro j h1 h2;have hj:j<m+news.length:=by simpa[Ay]using h2
  rw[CF,List.getElem_append];unfold OF;by_cases h:j<m;.rw[dif_pos (by rw[AK];exact h),CF,if_pos h]
  .rw[dif_neg (by rw[AK];exact h),if_neg h];simp only[AK];rw[A6,BN Zb];rfl
theorem Fj{w:World}{base e z n g cap:Nat}{c:Nat->Value}(h:w.ownsRow base e z (.l (some ⟨g,0,none⟩) n cap) n (Ay (n*z) c)):AM w g (n*z) c:=by refine⟨(h.lt g rfl).2,λj=>h.frozenAt j,λj hj=>?_⟩;rw[h.cellAt j hj,BN (by rw[AK];exact hj),CF]
theorem bC.frB{w w':World}{base b n cap:Nat}{ad:OA}{s:Nat->ByteArray}{P:Nat->Prop}(h:bC w base ad n cap)(hs:Bd w b (b+1) ad n s)(hf:AB P w w')(hp:n≠0->¬P b):bC w' base ad n cap:=by
 refine⟨h.le,h.z,λh0=>?_⟩;have hn:n≠0:=λe=>by have:=h.z e;omega
 obtain⟨g,e,hg,rm⟩:=h.rm h0;obtain⟨b',off,e',l1,l2,_⟩:=hs 0 Zb;rw[e]at e';injection e' with e';injection e' with e1 e2;have hgb:g=b:=Zb;refine⟨g,e,hg,⟨λj hj=>?_,λj=>(hf.frozen (p:=⟨g,j,none⟩) rm.lt (hgb▸hp hn)).trans (rm.free j),Ad rm.lt hf.size⟩⟩;obtain⟨u,hu⟩:=rm.has j hj;exact⟨u,(hf.cell (p:=⟨g,j,none⟩) rm.lt (hgb▸hp hn)).trans hu⟩
theorem bC.base{w:World}{base b' n cap:Nat}{ad:OA}(h:bC w base ad n cap)(hb:b'<=base):bC w b' ad n cap:=⟨h.le,h.z,λh0=>by obtain⟨g,e,hg,rm⟩:=h.rm h0;exact⟨g,e,Zb,rm⟩⟩
structure Ky (w:World)(base:Nat)(v:Value)(k:Nat)(x:Nat->Ob)(A:Nat->Option Addr)(C hb:Nat->Nat):Prop where
 row:∃c,w.ownsRow base 61 7 v k (Ay (k*7) c)/\∀i,i<k->K0 c i (x i) (A i) (C i)hold:∀i,i<k->Bd w (hb i) (hb i+1) (A i) (x i).hn (x i).hs
 hlt:∀i,i<k->(x i).hn≠0->base<=hb i/\hb i<w.1.size
 ne:∀i,i<k->(x i).hn≠0->v.ownBlock≠some (hb i)inj:∀i j,i<k->j<k->(x i).hn≠0->(x j).hn≠0->hb i=hb j->i=j
 rm:∀i,i<k->bC w base (A i) (x i).hn (C i)
theorem Ky.fr{w:World}{base:Nat}{v:Value}{k:Nat}{x:Nat->Ob}{A:Nat->Option Addr}{C hb:Nat->Nat}{w':World}{P:Nat->Prop}(h:Ky w base v k x A C hb)(hf:AB P w w')(hp:∀q,base<=q->q<w.1.size->¬P q):Ky w' base v k x A C hb:=⟨by obtain⟨c,r,e⟩:=h.row;exact⟨c,Fm r hf (λg hg=>hp g (r.lt g hg).1 (r.lt g hg).2),e⟩,λi hi=>(h.hold i hi).frP hf (λh0=>⟨hp _ (h.hlt i hi h0).1 (h.hlt i hi h0).2,(h.hlt i hi h0).2⟩),λi hi h0=>⟨(h.hlt i hi h0).1,Ad (h.hlt i hi h0).2 hf.size⟩,h.ne,h.inj,λi hi=>(h.rm i hi).frB (h.hold i hi) hf (λh0=>hp _ (h.hlt i hi h0).1 (h.hlt i hi h0).2)⟩
theorem Ky.grow{w:World}{base:Nat}{v:Value}{k:Nat}{x:Nat->Ob}{A:Nat->Option Addr}{C hb:Nat->Nat}{w':World}(h:Ky w base v k x A C hb)(hf:Below w.1.size w w'):Ky w' base v k x A C hb:=h.fr (Ap (P:=λ_=>False) hf) (λ_ _ _ h=>h)
theorem YW{P:Prop}(h:P:=by
  by_cases e1:i=k
  .by_cases e2:j=k;.rw[e1,e2]
   .subst e1;rw[Bw,BH _ _ e2]at e;exact absurd e.symm (hd j Zb h1 h0)
  .by_cases e2:j=k;.subst e2;rw[Bw,BH _ _ e1]at e;exact absurd e (hd i Zb h0 h1)
   .rw[BH _ _ e1,BH _ _ e2]at e;exact h.inj i j Zb Zb h0 h1 e):P:=h
theorem Yr{P:Prop}(h:P:=by
  by_cases e:i=k
  .subst e;rw[Bw];rcases hw with hw|hw;.rw[hw];exact hv h0
   .rw[hw];intro q;cases q;exact AJ _ (hl h0).2
  .rw[BH _ _ e];rcases hw with hw|hw;.rw[hw];exact h.ne i Zb h0
   .rw[hw];intro q;have h2:=(h.hlt i Zb h0).2;injection q with q;omega):P:=h
theorem Yb{P:Prop}(h:P:=by obtain⟨a0,a1,a2,a3,a4,a5,a6⟩:=hat i Zb;exact⟨(if_pos Zb).trans a0,(if_pos Zb).trans a1,(if_pos Zb).trans a2,(if_pos Zb).trans a3,(if_pos Zb).trans a4,(if_pos Zb).trans a5,(if_pos Zb).trans a6⟩):P:=h
theorem Yk{P:Prop}(h:P:=by
  by_cases e:i=k;.subst e;rw[Bw,Bw];exact hs.frP F (λh0=>⟨hv h0,(hl h0).2⟩)
  .rw[BH _ _ e,BH _ _ e];exact(h.hold i Zb).frP F (λh0=>⟨h.ne i Zb h0,(h.hlt i Zb h0).2⟩)):P:=h
theorem V9{P:Prop}(h:P:=by
  by_cases e:i=k;.subst e;rw[Bw];exact⟨(hl h0).1,Ad (hl h0).2 hg.size⟩
  .rw[BH _ _ e];exact⟨(h.hlt i Zb h0).1,Ad (h.hlt i Zb h0).2 hg.size⟩):P:=h
theorem Ky.app{w:World}{base:Nat}{v:Value}{k:Nat}{x:Nat->Ob}{A:Nat->Option Addr}{C hb:Nat->Nat}{w':World}{v':Value}{c:Nat->Value}{ad':OA}{cap' b':Nat}(h:Ky w base v k x A C hb)(hat:∀i,i<k->K0 c i (x i) (A i) (C i))(ho:w'.ownsRow base 61 7 v' (k+1) (Ay (k*7) c++[.s (x k).kind,.s (x k).name,.i (x k).ver,.i (x k).born,.s (x k).text,.bool (x k).ending,.l ad' (x k).hn cap']))(hg:w.grownBy w' v.ownBlock)(hw:v'.ownBlock=v.ownBlock\/v'.ownBlock=some w.1.size)(hs:Bd w b' (b'+1) ad' (x k).hn (x k).hs)(hl:(x k).hn≠0->base<=b'/\b'<w.1.size)(hv:(x k).hn≠0->v.ownBlock≠some b')(hd:∀i,i<k->(x i).hn≠0->(x k).hn≠0->hb i≠b')(hrm:bC w base ad' (x k).hn cap'):Ky w' base v' (k+1) x (Eh A k ad') (Eh C k cap') (Eh hb k b'):=by
 have F:=Bz hg;refine⟨⟨OF c (k*7) [.s (x k).kind,.s (x k).name,.i (x k).ver,.i (x k).born,.s (x k).text,.bool (x k).ending,.l ad' (x k).hn cap'],?_,λi hi=>?_⟩,λi hi=>?_,λi hi h0=>?_,λi hi h0=>?_,λi j hi hj h0 h1 e=>?_,λi hi=>?_⟩
 .rw[E8]at ho;have e:k*7+([.s (x k).kind,.s (x k).name,.i (x k).ver,.i (x k).born,.s (x k).text,.bool (x k).ending,.l ad' (x k).hn cap']:List Value).length=(k+1)*7:=by show k*7+7=_;omega
  rw[e]at ho;exact ho
 .by_cases e:i=k
  .subst e;rw[Bw,Bw];exact⟨Kd _ _ _,Cx _ _ _ 1,Cx _ _ _ 2,Cx _ _ _ 3,Cx _ _ _ 4,Cx _ _ _ 5,Cx _ _ _ 6⟩
  .rw[BH _ _ e,BH _ _ e];exact Yb
 .exact Yk
 .exact V9
 .exact Yr
 .exact YW
 .by_cases hik:i=k;.subst hik;simp only[Bw];exact hrm.frB hs F (λh0 e=>hv h0 e)
  .simp only[BH _ _ hik];exact(h.rm i Zb).frB (h.hold i Zb) F (λh0 e=>h.ne i Zb h0 e)
theorem Ky.done{w:World}{base:Nat}{v:Value}{k:Nat}{x:Nat->Ob}{A:Nat->Option Addr}{C hb:Nat->Nat}(h:Ky w base v k x A C hb):∃ad cap g,v=.l ad k cap/\D5 w ad g k x A C hb/\∀q,Gy g k (λi=>(x i).hn) hb q->base<=q:=by
 obtain⟨c,r,hat⟩:=h.row;rcases r.2 with⟨rfl,rfl⟩|⟨g,cap,cur,rfl,h1,_⟩;.exact⟨none,0,0,rfl,⟨λh0=>absurd h0 (AJ _),λh0=>absurd h0 (AJ _),λi hi=>absurd hi (Ai _),λi hi=>absurd hi (Ai _),⟨λi hi=>absurd hi (Ai _),λi j hi=>absurd hi (Ai _)⟩⟩,λq hq=>by
   rcases hq with⟨h0,_⟩|⟨i,hi,_⟩;.exact absurd h0 (AJ _)
   .exact absurd hi (Ai _)⟩
 .refine⟨_,cap,g,rfl,⟨λ_=>rfl,λ_=>⟨c,Fj r,hat⟩,h.hold,λi hi h0=>(h.hlt i hi h0).2,⟨λi hi h0 e=>h.ne i hi h0 (by rw[e];rfl),h.inj⟩⟩,λq hq=>?_⟩;rcases hq with⟨h0,rfl⟩|⟨i,hi,h0,rfl⟩;.exact h1
  .exact(h.hlt i hi h0).1
structure LP (w:World)(base:Nat)(v:Value)(k:Nat)(x:Nat->Ch)(A:Nat->Option Addr)(C hb:Nat->Nat):Prop where
 row:∃c,w.ownsRow base 63 9 v k (Ay (k*9) c)/\∀i,i<k->PD c i (x i) (A i) (C i)hold:∀i,i<k->Bd w (hb i) (hb i+1) (A i) (x i).ob.hn (x i).ob.hs
 hlt:∀i,i<k->(x i).ob.hn≠0->base<=hb i/\hb i<w.1.size
 ne:∀i,i<k->(x i).ob.hn≠0->v.ownBlock≠some (hb i)inj:∀i j,i<k->j<k->(x i).ob.hn≠0->(x j).ob.hn≠0->hb i=hb j->i=j
theorem LP.fr{w:World}{base:Nat}{v:Value}{k:Nat}{x:Nat->Ch}{A:Nat->Option Addr}{C hb:Nat->Nat}{w':World}{P:Nat->Prop}(h:LP w base v k x A C hb)(hf:AB P w w')(hp:∀q,base<=q->q<w.1.size->¬P q):LP w' base v k x A C hb:=⟨by obtain⟨c,r,e⟩:=h.row;exact⟨c,Fm r hf (λg hg=>hp g (r.lt g hg).1 (r.lt g hg).2),e⟩,λi hi=>(h.hold i hi).frP hf (λh0=>⟨hp _ (h.hlt i hi h0).1 (h.hlt i hi h0).2,(h.hlt i hi h0).2⟩),λi hi h0=>⟨(h.hlt i hi h0).1,Ad (h.hlt i hi h0).2 hf.size⟩,h.ne,h.inj⟩
theorem LP.grow{w:World}{base:Nat}{v:Value}{k:Nat}{x:Nat->Ch}{A:Nat->Option Addr}{C hb:Nat->Nat}{w':World}(h:LP w base v k x A C hb)(hf:Below w.1.size w w'):LP w' base v k x A C hb:=h.fr (Ap (P:=λ_=>False) hf) (λ_ _ _ h=>h)
theorem LP.app{w:World}{base:Nat}{v:Value}{k:Nat}{x:Nat->Ch}{A:Nat->Option Addr}{C hb:Nat->Nat}{w':World}{v':Value}{c:Nat->Value}{ad':OA}{cap' b':Nat}(h:LP w base v k x A C hb)(hat:∀i,i<k->PD c i (x i) (A i) (C i))(ho:w'.ownsRow base 63 9 v' (k+1) (Ay (k*9) c++[.i (x k).ver,.bool (x k).gone,.s (x k).ob.kind,.s (x k).ob.name,.i (x k).ob.ver,.i (x k).ob.born,.s (x k).ob.text,.bool (x k).ob.ending,.l ad' (x k).ob.hn cap']))(hg:w.grownBy w' v.ownBlock)(hw:v'.ownBlock=v.ownBlock\/v'.ownBlock=some w.1.size)(hs:Bd w b' (b'+1) ad' (x k).ob.hn (x k).ob.hs)(hl:(x k).ob.hn≠0->base<=b'/\b'<w.1.size)(hv:(x k).ob.hn≠0->v.ownBlock≠some b')(hd:∀i,i<k->(x i).ob.hn≠0->(x k).ob.hn≠0->hb i≠b'):LP w' base v' (k+1) x (Eh A k ad') (Eh C k cap') (Eh hb k b'):=by
 have F:=Bz hg;refine⟨⟨OF c (k*9) [.i (x k).ver,.bool (x k).gone,.s (x k).ob.kind,.s (x k).ob.name,.i (x k).ob.ver,.i (x k).ob.born,.s (x k).ob.text,.bool (x k).ob.ending,.l ad' (x k).ob.hn cap'],?_,λi hi=>?_⟩,λi hi=>?_,λi hi h0=>?_,λi hi h0=>?_,λi j hi hj h0 h1 e=>?_⟩
 .rw[E8]at ho;have e:k*9+([.i (x k).ver,.bool (x k).gone,.s (x k).ob.kind,.s (x k).ob.name,.i (x k).ob.ver,.i (x k).ob.born,.s (x k).ob.text,.bool (x k).ob.ending,.l ad' (x k).ob.hn cap']:List Value).length=(k+1)*9:=by show k*9+9=_;omega
  rw[e]at ho;exact ho
 .by_cases e:i=k;.subst e;rw[Bw,Bw];exact⟨Kd _ _ _,Cx _ _ _ 1,Cx _ _ _ 2,Cx _ _ _ 3,Cx _ _ _ 4,Cx _ _ _ 5,Cx _ _ _ 6,Cx _ _ _ 7,Cx _ _ _ 8⟩
  .rw[BH _ _ e,BH _ _ e];obtain⟨a0,a1,a2,a3,a4,a5,a6,a7,a8⟩:=hat i Zb;exact⟨(if_pos Zb).trans a0,(if_pos Zb).trans a1,(if_pos Zb).trans a2,(if_pos Zb).trans a3,(if_pos Zb).trans a4,(if_pos Zb).trans a5,(if_pos Zb).trans a6,(if_pos Zb).trans a7,(if_pos Zb).trans a8⟩
 .exact Yk
 .exact V9
 .exact Yr
 .exact YW
theorem LP.done{w:World}{base:Nat}{v:Value}{k:Nat}{x:Nat->Ch}{A:Nat->Option Addr}{C hb:Nat->Nat}(h:LP w base v k x A C hb):∃ad cap g,v=.l ad k cap/\k<=cap/\Gw w ad g k x A C hb/\∀q,Gy g k (λi=>(x i).ob.hn) hb q->base<=q:=by
 obtain⟨c,r,hat⟩:=h.row;rcases r.2 with⟨rfl,rfl⟩|⟨g,cap,cur,rfl,h1,_,hcap,_⟩;.exact⟨none,0,0,rfl,Az _,⟨λh0=>absurd h0 (AJ _),λh0=>absurd h0 (AJ _),λi hi=>absurd hi (Ai _),λi hi=>absurd hi (Ai _),⟨λi hi=>absurd hi (Ai _),λi j hi=>absurd hi (Ai _)⟩⟩,λq hq=>by
   rcases hq with⟨h0,_⟩|⟨i,hi,_⟩;.exact absurd h0 (AJ _)
   .exact absurd hi (Ai _)⟩
 .refine⟨_,cap,g,rfl,hcap,⟨λ_=>rfl,λ_=>⟨c,Fj r,hat⟩,h.hold,λi hi h0=>(h.hlt i hi h0).2,⟨λi hi h0 e=>h.ne i hi h0 (by rw[e];rfl),h.inj⟩⟩,λq hq=>?_⟩;rcases hq with⟨h0,rfl⟩|⟨i,hi,h0,rfl⟩;.exact h1
  .exact(h.hlt i hi h0).1
end Go.Proofs.YtofencldleijcaaGreat
namespace Go.Proofs.YtofencldleijcaaGreat
open Go.RowKit Go.Proofs.Tryz
structure PS where
 m:Nat
 y:Nat->Ob
 done:Bool
def Cy (o xi:Ob)(s:PS):PS:=if s.done then(if D8 xi o=0 then s else⟨s.m+1,Eh s.y s.m xi,true⟩)else if D8 xi o<0 then⟨s.m+1,Eh s.y s.m xi,false⟩else if D8 xi o=0 then⟨s.m+1,Eh s.y s.m o,true⟩else⟨s.m+1+1,Eh (Eh s.y s.m o) (s.m+1) xi,true⟩
def D2 (x:Nat->Ob)(o:Ob)(gone:Bool):Nat->PS
 |0=>⟨0,λ_=>o,gone⟩
 |i+1=>Cy o (x i) (D2 x o gone i)
def KA (o:Ob)(s:PS):PS:=if s.done then s else⟨s.m+1,Eh s.y s.m o,true⟩
def Cq (n:Nat)(x:Nat->Ob)(o:Ob)(gone:Bool):PS:=KA o (D2 x o gone n)
theorem Nh (x:Nat->Ob)(o:Ob)(gone:Bool):∀k,(D2 x o gone k).m+(if(D2 x o gone k).done then 0 else 1)<=k+1
 |0=>by show 0+(if gone then 0 else 1)<=1;split<;>omega
 |k+1=>by have ih:=Nh x o gone k;show(Cy o (x k) (D2 x o gone k)).m+(if(Cy o (x k) (D2 x o gone k)).done then 0 else 1)<=k+1+1;unfold Cy;cases hd:(D2 x o gone k).done with
  |true=>
   rw[hd]at ih;simp only[if_true]at ih⊢;split;.omega
   .simp;omega
  |false=>
   rw[hd]at ih;simp only[Es,if_false]at ih⊢;split;.simp;omega
   .split;.simp;omega
    .simp;omega
theorem Ax.frP{w w':World}{lo hi:Nat}{ad:OA}{n:Nat}{s:Nat->ByteArray}{P:Nat->Prop}(h:Ax w lo hi ad n s)(hf:AB P w w')(hh:hi<=w.1.size)(hp:∀q,q<hi->¬P q):Ax w' lo hi ad n s:=λi hi'=>by obtain⟨b,off,e1,e2,e3,e4⟩:=h i hi';exact⟨b,off,e1,e2,e3,(hf.cell (p:=⟨b,off+i,none⟩) (Ad e3 hh) (hp b e3)).trans e4⟩
structure VK (w:World)(base lo hi:Nat)(v:Value)(m:Nat)(y:Nat->Ob)(A:Nat->Option Addr)(C:Nat->Nat):Prop where
 row:∃c,w.ownsRow base 61 7 v m (Ay (m*7) c)/\∀i,i<m->K0 c i (y i) (A i) (C i)hold:∀i,i<m->Ax w lo hi (A i) (y i).hn (y i).hs
theorem VK.grow{w w':World}{base lo hi:Nat}{v:Value}{m:Nat}{y:Nat->Ob}{A:Nat->Option Addr}{C:Nat->Nat}(h:VK w base lo hi v m y A C)(hh:hi<=w.1.size)(hf:Below w.1.size w w'):VK w' base lo hi v m y A C:=⟨by obtain⟨c,r,e⟩:=h.row;exact⟨c,Fm r (Ap (P:=λ_=>False) hf) (λ_ _ h=>h),e⟩,λi hi'=>(h.hold i hi').frP (Ap (P:=λ_=>False) hf) hh (λ_ _ h=>h)⟩
theorem VK.app{w w':World}{base lo hi:Nat}{v v':Value}{m:Nat}{y:Nat->Ob}{A:Nat->Option Addr}{C:Nat->Nat}{c:Nat->Value}{o:Ob}{ad':OA}{cap':Nat}(h:VK w base lo hi v m y A C)(hat:∀i,i<m->K0 c i (y i) (A i) (C i))(ho:w'.ownsRow base 61 7 v' (m+1) (Ay (m*7) c++[.s o.kind,.s o.name,.i o.ver,.i o.born,.s o.text,.bool o.ending,.l ad' o.hn cap']))(hg:w.grownBy w' v.ownBlock)(hv:∀q,v.ownBlock=some q->base<=q)(hs:Ax w lo hi ad' o.hn o.hs)(hhb:hi<=base)(hhw:hi<=w.1.size):VK w' base lo hi v' (m+1) (Eh y m o) (Eh A m ad') (Eh C m cap'):=by
 have F:=Bz hg;have np:∀q,q<hi->¬v.ownBlock=some q:=λq hq e=>by have:=hv q e;omega
 refine⟨⟨OF c (m*7) [.s o.kind,.s o.name,.i o.ver,.i o.born,.s o.text,.bool o.ending,.l ad' o.hn cap'],?_,λi hi'=>?_⟩,λi hi'=>?_⟩
 .rw[E8]at ho;have e:m*7+([.s o.kind,.s o.name,.i o.ver,.i o.born,.s o.text,.bool o.ending,.l ad' o.hn cap']:List Value).length=(m+1)*7:=by show m*7+7=_;omega
  rw[e]at ho;exact ho
 .by_cases e:i=m
  .subst e;rw[Bw,Bw,Bw];exact⟨Kd _ _ _,Cx _ _ _ 1,Cx _ _ _ 2,Cx _ _ _ 3,Cx _ _ _ 4,Cx _ _ _ 5,Cx _ _ _ 6⟩
  .rw[BH _ _ e,BH _ _ e,BH _ _ e];exact Yb
 .by_cases e:i=m;.subst e;rw[Bw,Bw];exact hs.frP F hhw np
  .rw[BH _ _ e,BH _ _ e];exact(h.hold i Zb).frP F hhw np
theorem YE{P:Prop}(h:P:=by
  have BW2:=Ag (BD1.grow Zb (An w1 (.cells (vO (x k) ah ch) 61)));obtain⟨cc2,hown2,hat2⟩:=BW2.row;have Sf:=Ag hat2;clear hat2;go_wp2_with (at_builtin;go_must(refine wpList_append_own_at _ rfl _ _ 23 rfl (w.1.size+1) 61 i0 _ 7 96 underlying23 hi0 hz0 hz1 hz2 rfl Za _ (m) (Ay ((m)*7) cc2) rfl hown2 ⟨w1.1.size,0,none⟩ 1 1 [.s (x k).kind,.s (x k).name,.i (x k).ver,.i (x k).born,.s (x k).text,.bool (x k).ending,.l ah (x k).hn ch] rfl rfl (DM w1 _ 61) Xf Zs Zb Zd ?_;intro v2 u2 hown2' hgrow2 hnil2 hwh2;clear hnil2 hwh2));have zu2:=hgrow2.size;simp only[Au]at zu2;have BD2':=Ag (BW2.app (cap':=ch) Sf hown2' hgrow2 (λq hq=>(hown2.lt q hq).1) ((mN.out).alloc Zb _) Zb Zd);have B2':Below (w.1.size+1) (w.alloc (.cells #[.i c.ver,.bool c.gone,.s c.ob.kind,.s c.ob.name,.i c.ob.ver,.i c.ob.born,.s c.ob.text,.bool c.ob.ending,.l adc c.ob.hn capc] 63)) u2:=(b1.alloc Zb _).trans ((Bz hgrow2).below (λq hq e=>by have:=(hown2.lt q e).1;omega) Zd);clear hown2 hown2' hgrow2;go_roundw;case rel=>exact⟨k+1,_,_,Zb,by go_num,by rw[STEP.out,E.out],B2',by rw[STEP.out,E.out];exact BD2'⟩
  case measure=>simp[intOf];omega):P:=h
theorem LD (n:Nat)(x:Nat->Ob)(ad:OA)(cap:Nat)(c:Ch)(adc:OA)(capc:Nat)(w:World)(lo hi:Nat)(hhi:hi<=w.1.size)(hl:(n:Int)<=1048576)(hc:Bs w lo hi ad n x)(hcs:Ax w lo hi adc c.ob.hn c.ob.hs):Calls prog 29 #[.l ad n cap,.agg #[.i c.ver,.bool c.gone,.s c.ob.kind,.s c.ob.name,.i c.ob.ver,.i c.ob.born,.s c.ob.text,.bool c.ob.ending,.l adc c.ob.hn capc]] w λe w'=>∃v A C,e=.returned v/\VK w' (w.1.size+1) lo hi v (Cq n x c.ob c.gone).m (Cq n x c.ob c.gone).y A C/\Below w.1.size w w':=by
 obtain⟨i0,hi0,hz0,hz1,hz2⟩:=info_parts GB;have HC:=Ag hc;have oV:=Ag hcs;clear hc hcs;go_enter func29,ntmps29;go_wp2;have bd0:VK ((w.alloc (.cells #[.i c.ver,.bool c.gone,.s c.ob.kind,.s c.ob.name,.i c.ob.ver,.i c.ob.born,.s c.ob.text,.bool c.ob.ending,.l adc c.ob.hn capc] 63)).alloc (.cells #[] 61)) (w.1.size+1) lo hi (.l (some ⟨w.1.size+1,0,none⟩) 0 0) 0 (λ_=>c.ob) (λ_=>none) (λ_=>0):=⟨⟨λ_=>.i 0,by simpa[Ay]using Et (base:=w.1.size+1) (e:=61) (size:=7) (w.alloc (.cells #[.i c.ver,.bool c.gone,.s c.ob.kind,.s c.ob.name,.i c.ob.ver,.i c.ob.born,.s c.ob.text,.bool c.ob.ending,.l adc c.ob.hn capc] 63)) #[] 0 Zc OM rfl,λi hi=>absurd hi (Ai _)⟩,λi hi=>absurd hi (Ai _)⟩;go_loopw[5,6,7](λo d i wr=>∃(k:Nat)(A:Nat->Option Addr)(C:Nat->Nat),k<=n/\i=.i k/\d=.bool (D2 x c.ob c.gone k).done/\Below (w.1.size+1) (w.alloc (.cells #[.i c.ver,.bool c.gone,.s c.ob.kind,.s c.ob.name,.i c.ob.ver,.i c.ob.born,.s c.ob.text,.bool c.ob.ending,.l adc c.ob.hn capc] 63)) wr/\VK wr (w.1.size+1) lo hi o (D2 x c.ob c.gone k).m (D2 x c.ob c.gone k).y A C)(λ_ _ i _=>n-(intOf i).toNat);case atStart=>exact⟨0,_,_,Aw _,rfl,rfl,by simpa using An (w.alloc (.cells #[.i c.ver,.bool c.gone,.s c.ob.kind,.s c.ob.name,.i c.ob.ver,.i c.ob.born,.s c.ob.text,.bool c.ob.ending,.l adc c.ob.hn capc] 63)) (.cells #[] 61),bd0⟩
 case round=>
  clear bd0;obtain⟨k,A,C,hk,rfl,rfl,b0,bd⟩:=hrel;have hBw:Below w.1.size w wr:=(An _ _).trans (b0.mono Zb);have hsz:w.1.size+1<=wr.1.size:=by have:=b0.size;simpa using this
  have hle:=Nh x c.ob c.gone k;have LE:=Ag hle;have o2:=As (by simpa using b0) 2;have o3:=As (by simpa using b0) 3;have o4:=As (by simpa using b0) 4;have o5:=As (by simpa using b0) 5;have o6:=As (by simpa using b0) 6;have o7:=As (by simpa using b0) 7;have o8:=As (by simpa using b0) 8;simp only[Ac,Ab,Aa]at o2 o3 o4 o5 o6 o7 o8;obtain⟨S,hS⟩:∃S,D2 x c.ob c.gone k=S:=⟨_,rfl⟩;rw[hS]at bd LE⊢;have HS:=Ag hS;clear hS hle;have BD:=Ag bd;clear bd;by_cases hkn:k<n
  .obtain⟨b,off,ah,ch,rfl,hlo,hbh,hcx,hsx⟩:=HC k hkn;obtain⟨d0,d1,d2,d3,d4,d5,d6⟩:=hcx.below hBw Zb;have HX:=Ag hcx;have ZD:=Ag hsx;clear hcx hsx;have x0:=Ah d0 Zq;have x1:=Ah d1 Zq;have x2:=Ah d2 Zq;have x3:=Ah d3 Zq;have x4:=Ah d4 Zq;have x5:=Ah d5 Zq;have x6:=Ah d6 Zq;have y2:=Ah o2 Zg;have y3:=Ah o3 Zg;have y4:=Ah o4 Zg;have y5:=Ah o5 Zg;have y6:=Ah o6 Zg;have y7:=Ah o7 Zg;have y8:=Ah o8 Zg;have hne:Nonempty (GW wr):=⟨⟨_,Al _ _⟩⟩;go_wp2;refine AA Ze Ze ?_;repeat(go_big_quiet_step((go_at_call 60;go_must(exact Bf (MU (x k) c.ob _ _ _ _ _)))))
   refine wpQuiet_nil ?_;rintro w1 ⟨u,hu⟩;have hw1:Below wr.1.size wr w1:=hu▸u.prop;clear hu u hne x0 x1 x2 x3 x4 x5 x6 y2 y3 y4 y5 y6 y7 y8;have z1:=hw1.size;have b1:=b0.trans (hw1.mono Zb);have hBw1:Below w.1.size w w1:=(An _ _).trans (b1.mono Zb);have BD1:=Ag (BD.grow Zb hw1);have mN:=Ag (ZD.below hBw1 hhi);have kH:=Ag (oV.below hBw1 hhi);obtain⟨e0,e1,e2,e3,e4,e5,e6⟩:=HX.below hBw1 Zb;have p2:=(hw1.cell (p:=⟨w.1.size,2,none⟩) Zg).trans o2;have p3:=(hw1.cell (p:=⟨w.1.size,3,none⟩) Zg).trans o3;have p4:=(hw1.cell (p:=⟨w.1.size,4,none⟩) Zg).trans o4;have p5:=(hw1.cell (p:=⟨w.1.size,5,none⟩) Zg).trans o5;have p6:=(hw1.cell (p:=⟨w.1.size,6,none⟩) Zg).trans o6;have p7:=(hw1.cell (p:=⟨w.1.size,7,none⟩) Zg).trans o7;have p8:=(hw1.cell (p:=⟨w.1.size,8,none⟩) Zg).trans o8;have STEP:=Ag (show D2 x c.ob c.gone (k+1)=Cy c.ob (x k) S by show Cy c.ob (x k) (D2 x c.ob c.gone k)=_;rw[HS.out]);clear d0 d1 d2 d3 d4 d5 d6 o2 o3 o4 o5 o6 o7 o8 hw1 BD;obtain⟨kk,hkk⟩:∃kk,D8 (x k) c.ob=kk:=⟨_,rfl⟩;rw[hkk];have kM:=Ag hkk;clear hkk;obtain⟨m,y,dn⟩:=S;dsimp only at BD1 LE STEP⊢;cases dn with
   |true=>
    have hm:m<=k+1:=by have:=LE.out;simp at this;omega
    by_cases h0:kk=0
    .subst h0;have E:=Ag (show Cy c.ob (x k) ⟨m,y,true⟩=⟨m,y,true⟩by unfold Cy;simp[kM.out]);go_wp2;go_roundw;case rel=>exact⟨k+1,_,_,Zb,by go_num,by rw[STEP.out,E.out],b1,by rw[STEP.out,E.out];exact BD1⟩
     case measure=>simp[intOf];omega
    .have E:=Ag (show Cy c.ob (x k) ⟨m,y,true⟩=⟨m+1,Eh y m (x k),true⟩by unfold Cy;simp[kM.out,h0]);exact YE
   |false=>
    have hm:m<=k:=by have:=LE.out;simp at this;omega
    by_cases hneg:kk<0
    .have E:=Ag (show Cy c.ob (x k) ⟨m,y,false⟩=⟨m+1,Eh y m (x k),false⟩by unfold Cy;simp[kM.out,hneg]);have hnz:¬kk=0:=Zb;exact YE
    .by_cases h0:kk=0
     .subst h0;have E:=Ag (show Cy c.ob (x k) ⟨m,y,false⟩=⟨m+1,Eh y m c.ob,true⟩by unfold Cy;simp[kM.out]);have BW2:=Ag (BD1.grow Zb (An w1 (.cells (vO c.ob adc capc) 61)));obtain⟨cc2,hown2,hat2⟩:=BW2.row;have Sf:=Ag hat2;clear hat2;go_wp2_with (at_builtin;go_must(refine wpList_append_own_at _ rfl _ _ 23 rfl (w.1.size+1) 61 i0 _ 7 96 underlying23 hi0 hz0 hz1 hz2 rfl Za _ (m) (Ay ((m)*7) cc2) rfl hown2 ⟨w1.1.size,0,none⟩ 1 1 [.s c.ob.kind,.s c.ob.name,.i c.ob.ver,.i c.ob.born,.s c.ob.text,.bool c.ob.ending,.l adc c.ob.hn capc] rfl rfl (DM w1 _ 61) Xf Zs Zb Zd ?_;intro v2 u2 hown2' hgrow2 hnil2 hwh2;clear hnil2 hwh2));have zu2:=hgrow2.size;simp only[Au]at zu2;have BD2':=Ag (BW2.app (cap':=capc) Sf hown2' hgrow2 (λq hq=>(hown2.lt q hq).1) ((kH.out).alloc Zb _) Zb Zd);have B2':Below (w.1.size+1) (w.alloc (.cells #[.i c.ver,.bool c.gone,.s c.ob.kind,.s c.ob.name,.i c.ob.ver,.i c.ob.born,.s c.ob.text,.bool c.ob.ending,.l adc c.ob.hn capc] 63)) u2:=(b1.alloc Zb _).trans ((Bz hgrow2).below (λq hq e=>by have:=(hown2.lt q e).1;omega) Zd);clear hown2 hown2' hgrow2;go_roundw;case rel=>exact⟨k+1,_,_,Zb,by go_num,by rw[STEP.out,E.out],B2',by rw[STEP.out,E.out];exact BD2'⟩
      case measure=>simp[intOf];omega
     .have E:=Ag (show Cy c.ob (x k) ⟨m,y,false⟩=⟨m+1+1,Eh (Eh y m c.ob) (m+1) (x k),true⟩by unfold Cy;simp[kM.out,hneg,h0]);have BW2:=Ag (BD1.grow Zb (An w1 (.cells (vO c.ob adc capc) 61)));obtain⟨cc2,hown2,hat2⟩:=BW2.row;have Sf:=Ag hat2;clear hat2;go_upto_region 10 with(at_builtin;go_must(refine wpList_append_own_at _ rfl _ _ 23 rfl (w.1.size+1) 61 i0 _ 7 96 underlying23 hi0 hz0 hz1 hz2 rfl Za _ (m) (Ay ((m)*7) cc2) rfl hown2 ⟨w1.1.size,0,none⟩ 1 1 [.s c.ob.kind,.s c.ob.name,.i c.ob.ver,.i c.ob.born,.s c.ob.text,.bool c.ob.ending,.l adc c.ob.hn capc] rfl rfl (DM w1 _ 61) Xf Zs Zb Zd ?_;intro v2 u2 hown2' hgrow2 hnil2 hwh2;clear hnil2 hwh2));have zu2:=hgrow2.size;simp only[Au]at zu2;have BD2':=Ag (BW2.app (cap':=capc) Sf hown2' hgrow2 (λq hq=>(hown2.lt q hq).1) ((kH.out).alloc Zb _) Zb Zd);have B2':Below (w.1.size+1) (w.alloc (.cells #[.i c.ver,.bool c.gone,.s c.ob.kind,.s c.ob.name,.i c.ob.ver,.i c.ob.born,.s c.ob.text,.bool c.ob.ending,.l adc c.ob.hn capc] 63)) u2:=(b1.alloc Zb _).trans ((Bz hgrow2).below (λq hq e=>by have:=(hown2.lt q e).1;omega) Zd);clear hown2 hown2' hgrow2;clear e0 e1 e2 e3 e4 e5 e6 p2 p3 p4 p5 p6 p7 p8;have hBw2:Below w.1.size w u2:=(An _ _).trans (B2'.mono Zb);obtain⟨e0,e1,e2,e3,e4,e5,e6⟩:=HX.below hBw2 Zb;have mR:=Ag (ZD.below hBw2 hhi);have BW3:=Ag (BD2'.grow Zb (An u2 (.cells (vO (x k) ah ch) 61)));obtain⟨cc3,hown3,hat3⟩:=BW3.row;have m5:=Ag hat3;clear hat3;go_wp2_with (at_builtin;go_must(refine wpList_append_own_at _ rfl _ _ 23 rfl (w.1.size+1) 61 i0 _ 7 96 underlying23 hi0 hz0 hz1 hz2 rfl Za _ (m+1) (Ay ((m+1)*7) cc3) rfl hown3 ⟨u2.1.size,0,none⟩ 1 1 [.s (x k).kind,.s (x k).name,.i (x k).ver,.i (x k).born,.s (x k).text,.bool (x k).ending,.l ah (x k).hn ch] rfl rfl (DM u2 _ 61) Xf Zs Zb Zd ?_;intro v3 u3 hown3' hgrow3 hnil3 hwh3;clear hnil3 hwh3));have zu3:=hgrow3.size;simp only[Au]at zu3;have BD3':=Ag (BW3.app (cap':=ch) m5 hown3' hgrow3 (λq hq=>(hown3.lt q hq).1) ((mR.out).alloc Zb _) Zb Zd);have B3':Below (w.1.size+1) (w.alloc (.cells #[.i c.ver,.bool c.gone,.s c.ob.kind,.s c.ob.name,.i c.ob.ver,.i c.ob.born,.s c.ob.text,.bool c.ob.ending,.l adc c.ob.hn capc] 63)) u3:=(B2'.alloc Zb _).trans ((Bz hgrow3).below (λq hq e=>by have:=(hown3.lt q e).1;omega) Zd);clear hown3 hown3' hgrow3;go_roundw;case rel=>exact⟨k+1,_,_,Zb,by go_num,by rw[STEP.out,E.out],B3',by rw[STEP.out,E.out];exact BD3'⟩
      case measure=>simp[intOf];omega
  .have hke:k=n:=Zb;subst hke;obtain⟨m,y,dn⟩:=S;dsimp only at BD LE⊢;have hBw:Below w.1.size w wr:=(An _ _).trans (b0.mono Zb);have HCSr:=Ag (oV.below hBw hhi);have oP:=Ag (show Cq k x c.ob c.gone=KA c.ob ⟨m,y,dn⟩by unfold Cq;rw[HS.out]);cases dn with
   |true=>have E:=Ag (show KA c.ob ⟨m,y,true⟩=⟨m,y,true⟩from rfl);go_wp2;go_ret;exact⟨_,rfl,⟨A,C,by rw[oP.out,E.out];exact BD⟩,hBw⟩
   |false=>
    have hm:m<=k:=by have:=LE.out;simp at this;omega
    have E:=Ag (show KA c.ob ⟨m,y,false⟩=⟨m+1,Eh y m c.ob,true⟩from rfl);have BW2:=Ag (BD.grow Zb (An wr (.cells (vO c.ob adc capc) 61)));obtain⟨cc2,hown2,hat2⟩:=BW2.row;have Sf:=Ag hat2;clear hat2;go_wp2_with (at_builtin;go_must(refine wpList_append_own_at _ rfl _ _ 23 rfl (w.1.size+1) 61 i0 _ 7 96 underlying23 hi0 hz0 hz1 hz2 rfl Za _ (m) (Ay ((m)*7) cc2) rfl hown2 ⟨wr.1.size,0,none⟩ 1 1 [.s c.ob.kind,.s c.ob.name,.i c.ob.ver,.i c.ob.born,.s c.ob.text,.bool c.ob.ending,.l adc c.ob.hn capc] rfl rfl (DM wr _ 61) Xf Zs Zb Zd ?_;intro v2 u2 hown2' hgrow2 hnil2 hwh2;clear hnil2 hwh2));have zu2:=hgrow2.size;simp only[Au]at zu2;have BD2':=Ag (BW2.app (cap':=capc) Sf hown2' hgrow2 (λq hq=>(hown2.lt q hq).1) ((HCSr.out).alloc Zb _) Zb Zd);have B2':Below (w.1.size+1) (w.alloc (.cells #[.i c.ver,.bool c.gone,.s c.ob.kind,.s c.ob.name,.i c.ob.ver,.i c.ob.born,.s c.ob.text,.bool c.ob.ending,.l adc c.ob.hn capc] 63)) u2:=(b0.alloc Zb _).trans ((Bz hgrow2).below (λq hq e=>by have:=(hown2.lt q e).1;omega) Zd);clear hown2 hown2' hgrow2;go_ret;exact⟨_,_,_,rfl,by rw[oP.out,E.out];exact BD2',(An _ _).trans (B2'.mono Zb)⟩
end Go.Proofs.YtofencldleijcaaGreat
namespace Go.Proofs.YtofencldleijcaaGreat
open Go.RowKit Go.Proofs.Tryz
theorem OK{w:World}{base e z n:Nat}{v:Value}{c:Nat->Value}(h:w.ownsRow base e z v n (Ay (n*z) c))(hn:0<n):∃g cap,v=.l (some ⟨g,0,none⟩) n cap/\base<=g/\AM w g (n*z) c:=by
 rcases h.2 with⟨rfl,h0⟩|⟨g,cap,cur,rfl,h1,_⟩;.omega
 .exact⟨g,cap,rfl,h1,Fj h⟩
theorem Vu{w:World}{g:Nat}{c:Nat->Value}{v0 v1 v2 v3 v4:Value}(h:AM w g 5 c):AM (((((w.setCell ⟨g,0,none⟩ v0).setCell ⟨g,1,none⟩ v1).setCell ⟨g,2,none⟩ v2).setCell ⟨g,3,none⟩ v3).setCell ⟨g,4,none⟩ v4) g 5 (A7 [v0,v1,v2,v3,v4]):=by have r:=((((h.set (o:=0) Zb v0).set (o:=1) Zb v1).set (o:=2) Zb v2).set (o:=3) Zb v3).set (o:=4) Zb v4;refine⟨r.lt,r.free,λj hj=>(r.cell j hj).trans (congrArg some ?_)⟩;rcases(show j=0\/j=1\/j=2\/j=3\/j=4 by omega)with rfl|rfl|rfl|rfl|rfl<;>rfl
end Go.Proofs.YtofencldleijcaaGreat
namespace Go.Proofs.YtofencldleijcaaGreat
open Go.RowKit Go.Proofs.Tryz
theorem Xs{P:Prop}(h:P:=by
  have e':(q i).2.2=(q j).2.2:=e;rcases EH i j with c|c|c;.have:=FN h.mono (show i+1<=j by omega) Zb;omega
  .exact c
  .have:=FN h.mono (show j+1<=i by omega) Zb;omega):P:=h
theorem Hh.at{w:World}{g hi n:Nat}{x:Nat->Ob}{r:Nat->Nat}(h:Hh w g hi n n x r):∃A C hb,D5 w (some ⟨g,0,none⟩) g n x A C hb/\(∀i,i<n->E4 w (x i).hn (A i) (C i))/\∀q,Gy g n (λi=>(x i).hn) hb q->g<=q/\q<hi:=by
 have h1:∀i,∃q:Option Addr×(Nat×Nat),i<n->DT w g (i*7) (x i) q.1 q.2.1/\Bd w q.2.2 (q.2.2+1) q.1 (x i).hn (x i).hs/\((x i).hn≠0->r i<=q.2.2/\q.2.2<r (i+1))/\E4 w (x i).hn q.1 q.2.1:=λi=>by
  by_cases hi':i<n;.obtain⟨ah,ch,e1,e2,cg⟩:=h.at_ i hi';obtain⟨b,e3,e4⟩:=e2.one;exact⟨(ah,ch,b),λ_=>⟨e1,e3,e4,cg⟩⟩
  .exact⟨(none,0,0),λh=>absurd h hi'⟩
 obtain⟨q,hq⟩:=MF.1 h1;have rl:∀i,i<=n->r 0<=r i/\r i<=r n:=λi hi'=>⟨FN h.mono OM hi',FN h.mono hi' Bg⟩;have e:∀j v,w.cell? ⟨g,j,none⟩=some v->(w.cell? ⟨g,j,none⟩).getD (.i 0)=v:=λj v h=>by rw[h];rfl
 refine⟨λi=>(q i).1,λi=>(q i).2.1,λi=>(q i).2.2,⟨λ_=>rfl,λ_=>⟨λj=>(w.cell? ⟨g,j,none⟩).getD (.i 0),⟨h.room.lt,h.room.free,λj hj=>?_⟩,λi hi'=>?_⟩,λi hi'=>(hq i hi').2.1,λi hi' h0=>?_,⟨λi hi' h0=>?_,λi j hi' hj h0 h1 e=>?_⟩⟩,λi hi'=>(hq i hi').2.2.2,λk hk=>?_⟩;.obtain⟨u,hu⟩:=h.room.has j hj;rw[hu];rfl
 .have k:=(hq i hi').1;exact⟨(e (i*7) _ k.c0),(e (i*7+1) _ k.c1),(e (i*7+2) _ k.c2),(e (i*7+3) _ k.c3),(e (i*7+4) _ k.c4),(e (i*7+5) _ k.c5),(e (i*7+6) _ k.c6)⟩
 .have:=((hq i hi').2.2.1 h0).2;have h2:=(rl (i+1) Zb).2;have h3:=h.rn;have h4:=h.hi;omega
 .have:=((hq i hi').2.2.1 h0).1;have h2:=(rl i Zb).1;have h3:=h.r0;show(q i).2.2≠g;omega
 .have a1:=(hq i hi').2.2.1 h0;have a2:=(hq j hj).2.2.1 h1;exact Xs
 .have h3:=h.r0;have h4:=h.rn;have h5:=rl 0 Zb;rcases hk with⟨h0,rfl⟩|⟨i,hi',h0,rfl⟩;.omega
  .have a1:=(hq i hi').2.2.1 h0;have h6:=(rl i Zb).1;have h7:=(rl (i+1) Zb).2;show g<=(q i).2.2/\(q i).2.2<hi;omega
theorem Hg.at{w:World}{g hi n:Nat}{x:Nat->Ch}{r:Nat->Nat}(h:Hg w g hi n n x r):∃A C hb,Gw w (some ⟨g,0,none⟩) g n x A C hb/\∀q,Gy g n (λi=>(x i).ob.hn) hb q->g<=q/\q<hi:=by
 have h1:∀i,∃q:Option Addr×(Nat×Nat),i<n->Do w g (i*9) (x i) q.1 q.2.1/\Bd w q.2.2 (q.2.2+1) q.1 (x i).ob.hn (x i).ob.hs/\((x i).ob.hn≠0->r i<=q.2.2/\q.2.2<r (i+1)):=λi=>by
  by_cases hi':i<n;.obtain⟨ah,ch,e1,e2⟩:=h.at_ i hi';obtain⟨b,e3,e4⟩:=e2.one;exact⟨(ah,ch,b),λ_=>⟨e1,e3,e4⟩⟩
  .exact⟨(none,0,0),λh=>absurd h hi'⟩
 obtain⟨q,hq⟩:=MF.1 h1;have rl:∀i,i<=n->r 0<=r i/\r i<=r n:=λi hi'=>⟨FN h.mono OM hi',FN h.mono hi' Bg⟩;have e:∀j v,w.cell? ⟨g,j,none⟩=some v->(w.cell? ⟨g,j,none⟩).getD (.i 0)=v:=λj v h=>by rw[h];rfl
 refine⟨λi=>(q i).1,λi=>(q i).2.1,λi=>(q i).2.2,⟨λ_=>rfl,λ_=>⟨λj=>(w.cell? ⟨g,j,none⟩).getD (.i 0),⟨h.room.lt,h.room.free,λj hj=>?_⟩,λi hi'=>?_⟩,λi hi'=>(hq i hi').2.1,λi hi' h0=>?_,⟨λi hi' h0=>?_,λi j hi' hj h0 h1 e=>?_⟩⟩,λk hk=>?_⟩;.obtain⟨u,hu⟩:=h.room.has j hj;rw[hu];rfl
 .have k:=(hq i hi').1;exact⟨(e (i*9) _ k.c0),(e (i*9+1) _ k.c1),(e (i*9+2) _ k.c2),(e (i*9+3) _ k.c3),(e (i*9+4) _ k.c4),(e (i*9+5) _ k.c5),(e (i*9+6) _ k.c6),(e (i*9+7) _ k.c7),(e (i*9+8) _ k.c8)⟩
 .have:=((hq i hi').2.2 h0).2;have h2:=(rl (i+1) Zb).2;have h3:=h.rn;have h4:=h.hi;omega
 .have:=((hq i hi').2.2 h0).1;have h2:=(rl i Zb).1;have h3:=h.r0;show(q i).2.2≠g;omega
 .have a1:=(hq i hi').2.2 h0;have a2:=(hq j hj).2.2 h1;exact Xs
 .have h3:=h.r0;have h4:=h.rn;have h5:=rl 0 Zb;rcases hk with⟨h0,rfl⟩|⟨i,hi',h0,rfl⟩;.omega
  .have a1:=(hq i hi').2.2 h0;have h6:=(rl i Zb).1;have h7:=(rl (i+1) Zb).2;show g<=(q i).2.2/\(q i).2.2<hi;omega
theorem Hc.at{w:World}{g n:Nat}{x:Nat->Ti}(h:Hc w g n n x):ID w (some ⟨g,0,none⟩) g n x:=by
 have e:∀j v,w.cell? ⟨g,j,none⟩=some v->(w.cell? ⟨g,j,none⟩).getD (.i 0)=v:=λj v h=>by rw[h];rfl
 refine⟨λ_=>rfl,λ_=>⟨λj=>(w.cell? ⟨g,j,none⟩).getD (.i 0),⟨h.room.lt,h.room.free,λj hj=>?_⟩,λi hi'=>?_⟩⟩;.obtain⟨u,hu⟩:=h.room.has j hj;rw[hu];rfl
 .have k:=h.at_ i hi';exact⟨(e (i*5) _ k.c0),(e (i*5+1) _ k.c1),(e (i*5+2) _ k.c2),(e (i*5+3) _ k.c3),(e (i*5+4) _ k.c4)⟩
theorem Tv.atC{w:World}{lo hi:Nat}{x:Bk}{g1 g2 g3:Nat}(h:Tv w lo hi x g1 g2 g3):∃p:Pl,p.a1=some ⟨g1,0,none⟩/\p.a2=some ⟨g2,0,none⟩/\p.a3=some ⟨g3,0,none⟩/\Kr w x p/\(∀i,i<x.on->E4 w (x.os i).hn (p.A1 i) (p.C1 i))/\∀q,Ot p x q->lo<=q/\q<hi:=by
 obtain⟨⟨h1,r1,o1,o2⟩,⟨h2,r2,c1,c2⟩,ti,glo,ghi,gtop⟩:=h;obtain⟨A1,C1,b1,at1,cg1,k1⟩:=o1.at;obtain⟨A2,C2,b2,at2,k2⟩:=c1.at;have x1:=o1.r0;have x2:=o1.rn;have x3:=FN o1.mono (Aw x.on) Bg;have y1:=c1.r0;have y2:=c1.rn;have y3:=FN c1.mono (Aw x.hn) Bg;refine⟨⟨some ⟨g1,0,none⟩,some ⟨g2,0,none⟩,some ⟨g3,0,none⟩,g1,g2,g3,A1,C1,b1,A2,C2,b2⟩,rfl,rfl,rfl,⟨at1,at2,ti.at,λk e1 e2=>?_,λk e1 e2=>?_,λk e1 e2=>?_⟩,cg1,λk e=>?_⟩;.have a:=k1 k e1;have b:=k2 k e2;omega
 .have a:=k1 k e1;have b:k=g3:=e2.2;omega
 .have a:=k2 k e1;have b:k=g3:=e2.2;omega
 .rcases e with e|e|e;.have a:=k1 k e;omega
  .have a:=k2 k e;omega
  .have b:k=g3:=e.2;omega
theorem Tv.at{w:World}{lo hi:Nat}{x:Bk}{g1 g2 g3:Nat}(h:Tv w lo hi x g1 g2 g3):∃p:Pl,p.a1=some ⟨g1,0,none⟩/\p.a2=some ⟨g2,0,none⟩/\p.a3=some ⟨g3,0,none⟩/\Kr w x p/\∀q,Ot p x q->lo<=q/\q<hi:=by obtain⟨p,h1,h2,h3,h4,_,h5⟩:=h.atC;exact⟨p,h1,h2,h3,h4,h5⟩
def DS (W:World)(B:Nat)(c:Array Value):Prop:=∀i,W.cell? ⟨B,i,none⟩=c[i]?
theorem DS.fr{W W':World}{B lo hi:Nat}{c:Array Value}(h:DS W B c)(hb:Fr lo hi W W')(hB:B<W.1.size)(ho:B<lo\/hi<=B):DS W' B c:=λi=>(hb.cell (p:=⟨B,i,none⟩) hB ho).trans (h i)
theorem DS.below{W W':World}{B n:Nat}{c:Array Value}(h:DS W B c)(hb:Below n W W')(hB:B<n):DS W' B c:=λi=>(hb.cell (p:=⟨B,i,none⟩) hB).trans (h i)
def Er (x:Bk)(a1 a2 a3:OA)(c1 c2 c3:Nat):Array Value:=(vB x a1 a2 a3 c1 c2 c3)
end Go.Proofs.YtofencldleijcaaGreat
namespace Go.Proofs.YtofencldleijcaaGreat
open Go.RowKit Go.Maps Go.Proofs.Tryz
structure EO where
 ob:Ob
 A:Option Addr
 C:Nat
 hb:Nat
instance:Inhabited EO:=⟨⟨⟨ByteArray.empty,ByteArray.empty,0,0,ByteArray.empty,false,0,λ_=>ByteArray.empty⟩,none,0,0⟩⟩
def QS (L:List EO)(i:Nat):EO:=(L[i]?).getD default
theorem XQ{L:List EO}{i:Nat}(h:i<L.length):QS L i=L[i]:=by simp[QS,h]
theorem Ty{L:List EO}{i:Nat}(h:i<L.length):QS L i∈L:=by rw[XQ h];exact GC h
structure NT (w:World)(g:Nat)(L:List EO):Prop where
 lt:g<w.1.size
 free:∀j,w.frozen? ⟨g,j,none⟩=false
 ob:∀i,i<L.length->DT w g (i*7) (QS L i).ob (QS L i).A (QS L i).C
theorem DT.frP{w w':World}{P:Nat->Prop}{b o:Nat}{x:Ob}{ad:OA}{cap:Nat}(h:DT w b o x ad cap)(hf:AB P w w')(hb:b<w.1.size)(hp:¬P b):DT w' b o x ad cap:=have e:∀j,w'.cell? ⟨b,j,none⟩=w.cell? ⟨b,j,none⟩:=λj=>hf.cell (p:=⟨b,j,none⟩) hb hp
 ⟨(e _).trans h.c0,(e _).trans h.c1,(e _).trans h.c2,(e _).trans h.c3,(e _).trans h.c4,(e _).trans h.c5,(e _).trans h.c6⟩
theorem NT.fr{w w':World}{P:Nat->Prop}{g:Nat}{L:List EO}(h:NT w g L)(hf:AB P w w')(hp:¬P g):NT w' g L:=⟨Ad h.lt hf.size,λj=>(hf.frozen (p:=⟨g,j,none⟩) h.lt hp).trans (h.free j),λi hi=>(h.ob i hi).frP hf h.lt hp⟩
theorem NT.grow{w w':World}{g:Nat}{L:List EO}(h:NT w g L)(hf:Below w.1.size w w'):NT w' g L:=h.fr (Ap (P:=λ_=>False) hf) (λh=>h)
structure OW (w:World)(L:List EO):Prop where
 hold:∀e,e∈L->Bd w e.hb (e.hb+1) e.A e.ob.hn e.ob.hs
 lt:∀e,e∈L->e.ob.hn≠0->e.hb<w.1.size
 ap:L.Pairwise λe f=>e.ob.hn≠0->f.ob.hn≠0->e.hb≠f.hb
theorem OW.fr{w w':World}{P:Nat->Prop}{L:List EO}(h:OW w L)(hf:AB P w w')(hp:∀e,e∈L->e.ob.hn≠0->¬P e.hb):OW w' L:=⟨λe he=>(h.hold e he).frP hf (λh0=>⟨hp e he h0,h.lt e he h0⟩),λe he h0=>Ad (h.lt e he h0) hf.size,h.ap⟩
theorem OW.grow{w w':World}{L:List EO}(h:OW w L)(hf:Below w.1.size w w'):OW w' L:=h.fr (Ap (P:=λ_=>False) hf) (λ_ _ _ h=>h)
theorem NT.cellAt{w:World}{g:Nat}{L:List EO}(h:NT w g L){j:Nat}(hj:j<L.length*7):∃v,w.cell? ⟨g,j,none⟩=some v:=by
 have hi:j/7<L.length:=Zb;obtain⟨c0,c1,c2,c3,c4,c5,c6⟩:=h.ob (j/7) hi;have hr:j%7=0\/j%7=1\/j%7=2\/j%7=3\/j%7=4\/j%7=5\/j%7=6:=Zb;rcases hr with e|e|e|e|e|e|e;.exact⟨_,by rw[show j=j/7*7 by omega];exact c0⟩
 .exact⟨_,by rw[show j=j/7*7+1 by omega];exact c1⟩
 .exact⟨_,by rw[show j=j/7*7+2 by omega];exact c2⟩
 .exact⟨_,by rw[show j=j/7*7+3 by omega];exact c3⟩
 .exact⟨_,by rw[show j=j/7*7+4 by omega];exact c4⟩
 .exact⟨_,by rw[show j=j/7*7+5 by omega];exact c5⟩
 .exact⟨_,by rw[show j=j/7*7+6 by omega];exact c6⟩
def Eo (m:Nat)(y:Nat->Ob):List Ob:=(List.range m).map y
theorem NL (m:Nat)(y:Nat->Ob):Eo (m+1) y=Eo m y++[y m]:=by simp[Eo,Fy]
theorem Lr (m:Nat)(y:Nat->Ob):(Eo m y).length=m:=by simp[Eo]
theorem Jl (m:Nat)(y:Nat->Ob)(z:Ob):Eo (m+1) (Eh y m z)=Eo m y++[z]:=by
 rw[NL];have h1:Eo m (Eh y m z)=Eo m y:=by unfold Eo;apply Ki;intro i hi;have:=Bc.1 hi;exact if_neg Zb
 rw[h1];simp[Eh]
theorem Hf (x z:Ob):D8 x z<0↔CN x z=true:=by have h:=Rc x z;cases hb:CN x z with
 |true=>rw[hb]at h;simp at h;simp;omega
 |false=>rw[hb]at h;simp at h;simp;omega
theorem I9 (x z:Ob):D8 x z=0↔(x.kind.toList=z.kind.toList/\x.name.toList=z.name.toList):=by
 unfold D8;constructor
 .intro h;split at h;.exact absurd h Za
  .split at h
   .rename_i h2;split at h;.exact absurd h Za
    .split at h;.rename_i h3;exact⟨h2,h3⟩
     .exact absurd h Za
   .exact absurd h Za
 .rintro⟨h1,h2⟩;rw[if_neg (by rw[Gq h1];decide),if_pos h1,if_neg (by rw[Gq h2];decide),if_pos h2]
def E1 (o y:Ob):Bool:=decide (¬D8 y o=0)
def Ht (o:Ob):List Ob->List Ob
 |[]=>[o]
 |y::r=>if CN y o then y::Ht o r else o::(y::r).filter (E1 o)
def My (o:Ob)(gone:Bool)(l:List Ob):List Ob:=if gone then l.filter (E1 o)else Ht o l
theorem L2{x:Nat->Ob}{o:Ob}:∀n,Eo (D2 x o true n).m (D2 x o true n).y=(Eo n x).filter (E1 o)/\(D2 x o true n).done=true
 |0=>⟨rfl,rfl⟩
 |n+1=>by
  obtain⟨h1,h2⟩:=L2 (x:=x) (o:=o) n;rw[NL,List.filter_append];show Eo (Cy o (x n) (D2 x o true n)).m (Cy o (x n) (D2 x o true n)).y=_/\(Cy o (x n) (D2 x o true n)).done=true;unfold Cy;rw[h2,if_pos rfl];by_cases hk:D8 (x n) o=0;.rw[if_pos hk];exact⟨by rw[h1];simp[E1,hk],h2⟩
  .rw[if_neg hk];exact⟨by rw[Jl,h1];simp[E1,hk],rfl⟩
def IU (o:Ob):List Ob->List Ob×Bool
 |[]=>([],false)
 |y::r=>if CN y o then(y::(IU o r).1,(IU o r).2)else(o::(y::r).filter (E1 o),true)
theorem OY (o z:Ob):∀l,IU o (l++[z])=if(IU o l).2 then((IU o l).1++[z].filter (E1 o),true)else if CN z o then((IU o l).1++[z],false)else((IU o l).1++(o::[z].filter (E1 o)),true)
 |[]=>by simp only[Cu,IU];cases CN z o<;>simp
 |y::r=>by
  have ih:=OY o z r;by_cases hb:CN y o=true
  .simp only[B4,IU,if_pos hb,ih];by_cases h1:(IU o r).2=true;.simp only[if_pos h1]
   .simp only[if_neg h1];by_cases h2:CN z o=true;.simp only[if_pos h2]
    .simp only[if_neg h2]
  .simp only[B4,IU,if_neg hb,if_true];rw[<-B4,List.filter_append]
theorem Ye (o:Ob):∀l,Ht o l=if(IU o l).2 then(IU o l).1 else(IU o l).1++[o]
 |[]=>rfl
 |y::r=>by
  have ih:=Ye o r;by_cases hb:CN y o=true
  .simp only[Ht,IU,if_pos hb,ih];by_cases h1:(IU o r).2=true;.simp only[if_pos h1]
   .simp only[if_neg h1,B4]
  .simp only[Ht,IU,if_neg hb,if_true]
theorem Me{x:Nat->Ob}{o:Ob}:∀n,Eo (D2 x o false n).m (D2 x o false n).y=(IU o (Eo n x)).1/\(D2 x o false n).done=(IU o (Eo n x)).2
 |0=>⟨rfl,rfl⟩
 |n+1=>by obtain⟨h1,h2⟩:=Me (x:=x) (o:=o) n;rw[NL,OY];show Eo (Cy o (x n) (D2 x o false n)).m (Cy o (x n) (D2 x o false n)).y=_/\(Cy o (x n) (D2 x o false n)).done=_;unfold Cy;rw[h2];have kn:=Hf (x n) o;cases hd:(IU o (Eo n x)).2 with
  |true=>
   simp only[if_true];by_cases hk:D8 (x n) o=0;.rw[if_pos hk];exact⟨by rw[h1];simp[E1,hk],by rw[h2,hd]⟩
   .rw[if_neg hk];exact⟨by rw[Jl,h1];simp[E1,hk],rfl⟩
  |false=>
   simp only[Es,if_false];by_cases hn:D8 (x n) o<0;.rw[if_pos hn,if_pos (kn.1 hn)];exact⟨by rw[Jl,h1],rfl⟩
   .have hb:¬CN (x n) o=true:=λh=>hn (kn.2 h);rw[if_neg hn,if_neg hb];by_cases hk:D8 (x n) o=0;.rw[if_pos hk];exact⟨by rw[Jl,h1];simp[E1,hk],rfl⟩
    .rw[if_neg hk];refine⟨?_,rfl⟩;show Eo ((D2 x o false n).m+1+1) _=_;rw[Jl,Jl,h1];simp[E1,hk]
theorem Jt (n:Nat)(x:Nat->Ob)(o:Ob)(gone:Bool):Eo (Cq n x o gone).m (Cq n x o gone).y=My o gone (Eo n x):=by unfold Cq KA My;cases gone with
 |true=>obtain⟨h1,h2⟩:=L2 (x:=x) (o:=o) n;rw[h2];simpa using h1
 |false=>obtain⟨h1,h2⟩:=Me (x:=x) (o:=o) n;simp only[Es,if_false];rw[h2,Ye];cases hd:(IU o (Eo n x)).2 with
  |true=>simpa using h1
  |false=>simp only[Es,if_false];rw[Jl,h1]
end Go.Proofs.YtofencldleijcaaGreat
namespace Go.Proofs.YtofencldleijcaaGreat
open Go.RowKit Go.Proofs.Tryz
structure Wr where
 op:Int
 kind:ByteArray
 name:ByteArray
 seen:Int
 text:ByteArray
 hold:ByteArray
abbrev vW (x:Wr):Array Value:=#[.i x.op,.s x.kind,.s x.name,.i x.seen,.s x.text,.s x.hold]
abbrev qZ (x:Wr):List Value:=[.i x.op,.s x.kind,.s x.name,.i x.seen,.s x.text,.s x.hold]
structure Ml (w:Wr):Prop where
 k:(w.kind.size:Int)<=140737488355328
 n:(w.name.size:Int)<=140737488355328
 t:(w.text.size:Int)<=140737488355328
 h:(w.hold.size:Int)<=140737488355328
def LO (s:ByteArray):Bool:=decide (s=⟨#[]⟩)
def Gi (w:Wr):Bool:=if w.op=1 then decide (w.seen=0)else if w.op=2 then LO w.hold else if w.op=3 then LO w.text&&LO w.hold else if w.op=4 then LO w.text&&!LO w.hold else if w.op=5 then LO w.text&&!LO w.hold else false
def ED (w:Wr):Bool:=By w.kind&&(By w.name&&(decide (0<=w.seen)&&(decide (w.text.size<=300)&&(LO w.hold||By w.hold))))
def EU (w:Wr):Bool:=ED w&&Gi w
theorem DE{a b:ByteArray}(h:a.toList=b.toList):a=b:=by cases a with|mk a=>cases b with|mk b=>
 have h2:a.toList=b.toList:=by simpa[ByteArray.toList_eq]using h
 exact congrArg ByteArray.mk (Array.ext' h2)
theorem JC{s:ByteArray}(h:¬s=⟨#[]⟩):(s.toList==(⟨#[]⟩:ByteArray).toList)=false:=by cases hb:(s.toList==(⟨#[]⟩:ByteArray).toList)with
 |false=>rfl
 |true=>exact absurd (DE Mj) h
theorem Ce{s:ByteArray}(h:¬s=⟨#[]⟩):¬s.toList=[]:=λe=>h (DE (e.trans (by simp[ByteArray.toList_eq])))
end Go.Proofs.YtofencldleijcaaGreat
namespace Go.Proofs.YtofencldleijcaaGreat
open Go.RowKit Go.Proofs.Tryz
def I4 (n:Nat)(s:Nat->ByteArray)(a:ByteArray):Bool:=!Be (λi=>!decide (s i=a)) n
theorem Uf{n:Nat}{s:Nat->ByteArray}{a:ByteArray}(h:∀i,i<n->¬s i=a):I4 n s a=false:=by unfold I4;rw[AC.2 (λi hi=>by simp[h i hi])];rfl
theorem Nx{n:Nat}{s:Nat->ByteArray}{a:ByteArray}{k:Nat}(hk:k<n)(h:s k=a):I4 n s a=true:=by unfold I4;rw[AV (p:=λi=>!decide (s i=a)) hk (by simp[h])];rfl
theorem Wd{a b:ByteArray}(h:¬a=b):(a.toList==b.toList)=false:=by cases hb:(a.toList==b.toList)with
 |false=>rfl
 |true=>exact absurd (DE Mj) h
theorem Ja (n:Nat)(s:Nat->ByteArray)(ad:OA)(cap:Nat)(a:ByteArray)(w:World)(lo hi:Nat)(hl:(n:Int)<=140737488355328)(hc:Ax w lo hi ad n s):Calls prog 69 #[.l ad n cap,.s a] w λe w'=>e=.returned (.bool (I4 n s a))/\w'=w:=by
 go_enter func69,ntmps69;go_wp2;go_loopw[5](λi wr=>∃k:Nat,k<=n/\i=.i k/\wr=w/\∀j,j<k->¬s j=a)(λi _=>n-(intOf i).toNat);case atStart=>exact⟨0,Aw _,rfl,rfl,λj hj=>absurd hj (Ai _)⟩
 case round=>
  obtain⟨k,hk,rfl,rfl,hall⟩:=hrel;have HA:=Ag hall;clear hall;by_cases hkn:k<n
  .obtain⟨b,off,rfl,hlo,hbh,hcx⟩:=hc k hkn;clear hc;by_cases he:s k=a
   .subst he;have HE:=Ag (Nx (a:=s k) hkn rfl);go_wp2;go_ret;exact⟨Av HE.symm,rfl⟩
   .have hb:=Wd he;have HN:=Ag he;clear he;go_wp2;go_roundw;case rel=>exact⟨k+1,Zb,by go_num,by first|trivial|rfl,λj hj=>(by
     rcases At j k with h3|h3;.exact HA j h3
     .have:j=k:=Zb;subst this;exact HN)⟩
    case measure=>simp[intOf];omega
  .have HE:=Ag (Uf (n:=n) (s:=s) (a:=a) (λi hi=>HA.out i Zb));clear hc;go_wp2;go_ret;exact⟨Av HE.symm,rfl⟩
end Go.Proofs.YtofencldleijcaaGreat
namespace Go.Proofs.YtofencldleijcaaGreat
open Go.RowKit Go.Proofs.Tryz
theorem aF{a b:ByteArray}(h:¬a=b):(a.toList==b.toList)=false:=by cases hb:(a.toList==b.toList)with
 |false=>rfl
 |true=>exact absurd (DE Mj) h
end Go.Proofs.YtofencldleijcaaGreat
namespace Go.Proofs.YtofencldleijcaaGreat
open Go.RowKit Go.Proofs.Tryz
def P9 (x:Nat->Ob)(ki na:ByteArray)(i:Nat):Int:=KV (Cl (x i).kind ki) (Cl (x i).name na)
theorem bS (x:Nat->Ob)(z:Ob)(i:Nat):P9 x z.kind z.name i=D8 (x i) z:=by unfold P9 D8 KV Cl;cases h1:ER (x i).kind z.kind with
 |true=>simp
 |false=>
  by_cases h2:(x i).kind.toList=z.kind.toList;.cases h3:ER (x i).name z.name with
   |true=>simp[h2]
   |false=>by_cases h4:(x i).name.toList=z.name.toList<;>simp[h2,h4]
  .simp[h2]
theorem JY:∀{a b c:List UInt8},Op.bytesLess a b=true->Op.bytesLess b c=true->Op.bytesLess a c=true
 |[],_::_,[],_,h=>by simp[Op.bytesLess]at h
 |[],[],_,h,_=>by simp[Op.bytesLess]at h
 |[],_::_,_::_,_,_=>by simp[Op.bytesLess]
 |_::_,[],_,h,_=>by simp[Op.bytesLess]at h
 |_::_,_::_,[],_,h=>by simp[Op.bytesLess]at h
 |p::a,q::b,r::c,h1,h2=>by
  simp only[Op.bytesLess,Hi,Ak,decide_eq_true_eq,beq_iff_eq]at h1 h2⊢;rcases h1 with h1|⟨h1,h1'⟩
  .rcases h2 with h2|⟨h2,_⟩;.exact AO (UInt8.lt_trans h1 h2)
   .exact AO (h2▸h1)
  .rcases h2 with h2|⟨h2,h2'⟩;.exact AO (h1▸h2)
   .exact AD ⟨h1.trans h2,JY h1' h2'⟩
theorem I3{a b c:ByteArray}(h1:ER a b=true)(h2:ER b c=true):ER a c=true:=JY h1 h2
end Go.Proofs.YtofencldleijcaaGreat
