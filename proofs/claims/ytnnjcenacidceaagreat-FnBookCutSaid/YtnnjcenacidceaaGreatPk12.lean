import Derived.Test.YtnnjcenacidceaaGreatPk07
import Derived.Test.YtnnjcenacidceaaGreatPk11
import Derived.Maps.AppendAt
import Derived.Test.YtnnjcenacidceaaGreatPk08
import Derived.Deep.Cut
import Derived.Deep.CutRange
import Derived.Test.YtnnjcenacidceaaGreatPk02
import Derived.Deep.RegionLaw
import Derived.Test.YtnnjcenacidceaaGreatPk10
import Derived.Test.YtnnjcenacidceaaGreatPk06
set_option maxRecDepth 100000
set_option maxHeartbeats 4000000
namespace Go.Proofs.YtnnjcenacidceaaGreat
open Go.RowKit Go.Proofs.Tryz
theorem BH{w w':World}{row:Option Nat}(h:w.grownBy w' row):Ay (λq=>row=some q) w w':=⟨h.os,h.tape,h.output,h.size,λk hk ho=>h.block k hk (λe=>ho e.symm)⟩
theorem Lt{w w':World}{base e z n:Nat}{v:Value}{xs:List Value}{P:Nat->Prop}(h:w.ownsRow base e z v n xs)(hf:Ay P w w')(hp:∀g,v.ownBlock=some g->¬P g):w'.ownsRow base e z v n xs:=by
 refine⟨h.1,?_⟩;rcases h.2 with h0|⟨g,cap,cur,rfl,h1,h2,h3⟩;.exact AB h0
 .exact AE ⟨g,cap,cur,rfl,h1,(hf.block g (AR.1 h2).1 (hp g rfl)).trans h2,h3⟩
theorem Bp.one{w:World}{lo hi:Nat}{ad:OA}{n:Nat}{s:Nat->ByteArray}(h:Bp w lo hi ad n s):∃b,Bp w b (b+1) ad n s/\(n≠0->lo<=b/\b<hi):=by
 by_cases h0:n=0;.subst h0;exact⟨0,Bp.zero,λh=>absurd rfl h⟩
 .obtain⟨b,off,e1,e2,e3,_⟩:=h 0 Za;refine⟨b,λi hi=>?_,λ_=>⟨e2,e3⟩⟩;obtain⟨b',off',f1,f2,f3,f4⟩:=h i hi;rw[e1]at f1;cases f1;exact⟨b,off,e1,AG _,BE _,f4⟩
theorem Fj (w:World)(l:List Value)(t:TypeId):∀j u,l[j]?=some u->(w.alloc (.cells l.toArray t)).cell? ((⟨w.1.size,0,none⟩:Addr).add j)=some u:=by intro j u h;rw[show((⟨w.1.size,0,none⟩:Addr).add j)=⟨w.1.size,j,none⟩by unfold Addr.add;split<;>simp_all,Al];simpa using h
def SS (c:Nat->Value)(m:Nat)(news:List Value):Nat->Value:=λj=>if j<m then c j else news.getD (j-m) (.i 0)
theorem Oi (c:Nat->Value)(m:Nat)(news:List Value):SS c m news m=news.getD 0 (.i 0):=by unfold SS;rw[if_neg (AY _),Nat.sub_self]
theorem Cp (c:Nat->Value)(m:Nat)(news:List Value)(j:Nat):SS c m news (m+j)=news.getD j (.i 0):=by unfold SS;rw[if_neg Za,Lj]
theorem Lr (c:Nat->Value)(m:Nat)(news:List Value):AJ m c++news=AJ (m+news.length) (SS c m news):=by
 apply List.ext_getElem;.simp[AJ]
 .intro j h1 h2;have hj:j<m+news.length:=by simpa[AJ]using h2
  rw[C9,List.getElem_append];unfold SS;by_cases h:j<m;.rw[dif_pos (by rw[A6];exact h),C9,if_pos h]
  .rw[dif_neg (by rw[A6];exact h),if_neg h];simp only[A6];rw[G9,Cf Za];rfl
theorem OP{w:World}{base e z n g cap:Nat}{c:Nat->Value}(h:w.ownsRow base e z (.l (some ⟨g,0,none⟩) n cap) n (AJ (n*z) c)):AN w g (n*z) c:=by refine⟨(h.lt g rfl).2,λj=>h.frozenAt j,λj hj=>?_⟩;rw[h.cellAt j hj,Cf (by rw[A6];exact hj),C9]
theorem mO.frB{w w':World}{base b n cap:Nat}{ad:OA}{s:Nat->ByteArray}{P:Nat->Prop}(h:mO w base ad n cap)(hs:Bp w b (b+1) ad n s)(hf:Ay P w w')(hp:n≠0->¬P b):mO w' base ad n cap:=by
 refine⟨h.le,h.z,λh0=>?_⟩;have hn:n≠0:=λe=>by have:=h.z e;omega
 obtain⟨g,e,hg,rm⟩:=h.rm h0;obtain⟨b',off,e',l1,l2,_⟩:=hs 0 Za;rw[e]at e';injection e' with e';injection e' with e1 e2;have hgb:g=b:=Za;refine⟨g,e,hg,⟨λj hj=>?_,λj=>(hf.frozen (p:=⟨g,j,none⟩) rm.lt (hgb▸hp hn)).trans (rm.free j),Ad rm.lt hf.size⟩⟩;obtain⟨u,hu⟩:=rm.has j hj;exact⟨u,(hf.cell (p:=⟨g,j,none⟩) rm.lt (hgb▸hp hn)).trans hu⟩
theorem mO.base{w:World}{base b' n cap:Nat}{ad:OA}(h:mO w base ad n cap)(hb:b'<=base):mO w b' ad n cap:=⟨h.le,h.z,λh0=>by obtain⟨g,e,hg,rm⟩:=h.rm h0;exact⟨g,e,Za,rm⟩⟩
structure OD (w:World)(base:Nat)(v:Value)(k:Nat)(x:Nat->Ob)(A:Nat->Option Addr)(C hb:Nat->Nat):Prop where
 row:∃c,w.ownsRow base 51 7 v k (AJ (k*7) c)/\∀i,i<k->P8 c i (x i) (A i) (C i)hold:∀i,i<k->Bp w (hb i) (hb i+1) (A i) (x i).hn (x i).hs
 hlt:∀i,i<k->(x i).hn≠0->base<=hb i/\hb i<w.1.size
 ne:∀i,i<k->(x i).hn≠0->v.ownBlock≠some (hb i)inj:∀i j,i<k->j<k->(x i).hn≠0->(x j).hn≠0->hb i=hb j->i=j
 rm:∀i,i<k->mO w base (A i) (x i).hn (C i)
theorem OD.fr{w:World}{base:Nat}{v:Value}{k:Nat}{x:Nat->Ob}{A:Nat->Option Addr}{C hb:Nat->Nat}{w':World}{P:Nat->Prop}(h:OD w base v k x A C hb)(hf:Ay P w w')(hp:∀q,base<=q->q<w.1.size->¬P q):OD w' base v k x A C hb:=⟨by obtain⟨c,r,e⟩:=h.row;exact⟨c,Lt r hf (λg hg=>hp g (r.lt g hg).1 (r.lt g hg).2),e⟩,λi hi=>(h.hold i hi).frP hf (λh0=>⟨hp _ (h.hlt i hi h0).1 (h.hlt i hi h0).2,(h.hlt i hi h0).2⟩),λi hi h0=>⟨(h.hlt i hi h0).1,Ad (h.hlt i hi h0).2 hf.size⟩,h.ne,h.inj,λi hi=>(h.rm i hi).frB (h.hold i hi) hf (λh0=>hp _ (h.hlt i hi h0).1 (h.hlt i hi h0).2)⟩
theorem OD.grow{w:World}{base:Nat}{v:Value}{k:Nat}{x:Nat->Ob}{A:Nat->Option Addr}{C hb:Nat->Nat}{w':World}(h:OD w base v k x A C hb)(hf:Below w.1.size w w'):OD w' base v k x A C hb:=h.fr (Ar (P:=λ_=>False) hf) (λ_ _ _ h=>h)
theorem gQ{P:Prop}(h:P:=by
  by_cases e1:i=k
  .by_cases e2:j=k;.rw[e1,e2]
   .subst e1;rw[Bh,Bz _ _ e2]at e;exact absurd e.symm (hd j Za h1 h0)
  .by_cases e2:j=k;.subst e2;rw[Bh,Bz _ _ e1]at e;exact absurd e (hd i Za h0 h1)
   .rw[Bz _ _ e1,Bz _ _ e2]at e;exact h.inj i j Za Za h0 h1 e):P:=h
theorem bZ{P:Prop}(h:P:=by
  by_cases e:i=k
  .subst e;rw[Bh];rcases hw with hw|hw;.rw[hw];exact hv h0
   .rw[hw];intro q;cases q;exact AY _ (hl h0).2
  .rw[Bz _ _ e];rcases hw with hw|hw;.rw[hw];exact h.ne i Za h0
   .rw[hw];intro q;have h2:=(h.hlt i Za h0).2;injection q with q;omega):P:=h
theorem iJ{P:Prop}(h:P:=by obtain⟨a0,a1,a2,a3,a4,a5,a6⟩:=hat i Za;exact⟨(if_pos Za).trans a0,(if_pos Za).trans a1,(if_pos Za).trans a2,(if_pos Za).trans a3,(if_pos Za).trans a4,(if_pos Za).trans a5,(if_pos Za).trans a6⟩):P:=h
theorem gL{P:Prop}(h:P:=by
  by_cases e:i=k;.subst e;rw[Bh,Bh];exact hs.frP F (λh0=>⟨hv h0,(hl h0).2⟩)
  .rw[Bz _ _ e,Bz _ _ e];exact(h.hold i Za).frP F (λh0=>⟨h.ne i Za h0,(h.hlt i Za h0).2⟩)):P:=h
theorem jO{P:Prop}(h:P:=by
  by_cases e:i=k;.subst e;rw[Bh];exact⟨(hl h0).1,Ad (hl h0).2 hg.size⟩
  .rw[Bz _ _ e];exact⟨(h.hlt i Za h0).1,Ad (h.hlt i Za h0).2 hg.size⟩):P:=h
theorem OD.app{w:World}{base:Nat}{v:Value}{k:Nat}{x:Nat->Ob}{A:Nat->Option Addr}{C hb:Nat->Nat}{w':World}{v':Value}{c:Nat->Value}{ad':OA}{cap' b':Nat}(h:OD w base v k x A C hb)(hat:∀i,i<k->P8 c i (x i) (A i) (C i))(ho:w'.ownsRow base 51 7 v' (k+1) (AJ (k*7) c++[.s (x k).kind,.s (x k).name,.i (x k).ver,.i (x k).born,.s (x k).text,.bool (x k).ending,.l ad' (x k).hn cap']))(hg:w.grownBy w' v.ownBlock)(hw:v'.ownBlock=v.ownBlock\/v'.ownBlock=some w.1.size)(hs:Bp w b' (b'+1) ad' (x k).hn (x k).hs)(hl:(x k).hn≠0->base<=b'/\b'<w.1.size)(hv:(x k).hn≠0->v.ownBlock≠some b')(hd:∀i,i<k->(x i).hn≠0->(x k).hn≠0->hb i≠b')(hrm:mO w base ad' (x k).hn cap'):OD w' base v' (k+1) x (B7 A k ad') (B7 C k cap') (B7 hb k b'):=by
 have F:=BH hg;refine⟨⟨SS c (k*7) [.s (x k).kind,.s (x k).name,.i (x k).ver,.i (x k).born,.s (x k).text,.bool (x k).ending,.l ad' (x k).hn cap'],?_,λi hi=>?_⟩,λi hi=>?_,λi hi h0=>?_,λi hi h0=>?_,λi j hi hj h0 h1 e=>?_,λi hi=>?_⟩
 .rw[Lr]at ho;have e:k*7+([.s (x k).kind,.s (x k).name,.i (x k).ver,.i (x k).born,.s (x k).text,.bool (x k).ending,.l ad' (x k).hn cap']:List Value).length=(k+1)*7:=by show k*7+7=_;omega
  rw[e]at ho;exact ho
 .by_cases e:i=k
  .subst e;rw[Bh,Bh];exact⟨Oi _ _ _,Cp _ _ _ 1,Cp _ _ _ 2,Cp _ _ _ 3,Cp _ _ _ 4,Cp _ _ _ 5,Cp _ _ _ 6⟩
  .rw[Bz _ _ e,Bz _ _ e];exact iJ
 .exact gL
 .exact jO
 .exact bZ
 .exact gQ
 .by_cases hik:i=k;.subst hik;simp only[Bh];exact hrm.frB hs F (λh0 e=>hv h0 e)
  .simp only[Bz _ _ hik];exact(h.rm i Za).frB (h.hold i Za) F (λh0 e=>h.ne i Za h0 e)
theorem OD.done{w:World}{base:Nat}{v:Value}{k:Nat}{x:Nat->Ob}{A:Nat->Option Addr}{C hb:Nat->Nat}(h:OD w base v k x A C hb):∃ad cap g,v=.l ad k cap/\Lc w ad g k x A C hb/\∀q,LW g k (λi=>(x i).hn) hb q->base<=q:=by
 obtain⟨c,r,hat⟩:=h.row;rcases r.2 with⟨rfl,rfl⟩|⟨g,cap,cur,rfl,h1,_⟩;.exact⟨none,0,0,rfl,⟨λh0=>absurd h0 (AY _),λh0=>absurd h0 (AY _),λi hi=>absurd hi (Ai _),λi hi=>absurd hi (Ai _),⟨λi hi=>absurd hi (Ai _),λi j hi=>absurd hi (Ai _)⟩⟩,λq hq=>by
   rcases hq with⟨h0,_⟩|⟨i,hi,_⟩;.exact absurd h0 (AY _)
   .exact absurd hi (Ai _)⟩
 .refine⟨_,cap,g,rfl,⟨λ_=>rfl,λ_=>⟨c,OP r,hat⟩,h.hold,λi hi h0=>(h.hlt i hi h0).2,⟨λi hi h0 e=>h.ne i hi h0 (by rw[e];rfl),h.inj⟩⟩,λq hq=>?_⟩;rcases hq with⟨h0,rfl⟩|⟨i,hi,h0,rfl⟩;.exact h1
  .exact(h.hlt i hi h0).1
structure Lf (w:World)(base:Nat)(v:Value)(k:Nat)(x:Nat->Ch)(A:Nat->Option Addr)(C hb:Nat->Nat):Prop where
 row:∃c,w.ownsRow base 53 9 v k (AJ (k*9) c)/\∀i,i<k->Qf c i (x i) (A i) (C i)hold:∀i,i<k->Bp w (hb i) (hb i+1) (A i) (x i).ob.hn (x i).ob.hs
 hlt:∀i,i<k->(x i).ob.hn≠0->base<=hb i/\hb i<w.1.size
 ne:∀i,i<k->(x i).ob.hn≠0->v.ownBlock≠some (hb i)inj:∀i j,i<k->j<k->(x i).ob.hn≠0->(x j).ob.hn≠0->hb i=hb j->i=j
theorem Lf.fr{w:World}{base:Nat}{v:Value}{k:Nat}{x:Nat->Ch}{A:Nat->Option Addr}{C hb:Nat->Nat}{w':World}{P:Nat->Prop}(h:Lf w base v k x A C hb)(hf:Ay P w w')(hp:∀q,base<=q->q<w.1.size->¬P q):Lf w' base v k x A C hb:=⟨by obtain⟨c,r,e⟩:=h.row;exact⟨c,Lt r hf (λg hg=>hp g (r.lt g hg).1 (r.lt g hg).2),e⟩,λi hi=>(h.hold i hi).frP hf (λh0=>⟨hp _ (h.hlt i hi h0).1 (h.hlt i hi h0).2,(h.hlt i hi h0).2⟩),λi hi h0=>⟨(h.hlt i hi h0).1,Ad (h.hlt i hi h0).2 hf.size⟩,h.ne,h.inj⟩
theorem Lf.grow{w:World}{base:Nat}{v:Value}{k:Nat}{x:Nat->Ch}{A:Nat->Option Addr}{C hb:Nat->Nat}{w':World}(h:Lf w base v k x A C hb)(hf:Below w.1.size w w'):Lf w' base v k x A C hb:=h.fr (Ar (P:=λ_=>False) hf) (λ_ _ _ h=>h)
theorem Lf.app{w:World}{base:Nat}{v:Value}{k:Nat}{x:Nat->Ch}{A:Nat->Option Addr}{C hb:Nat->Nat}{w':World}{v':Value}{c:Nat->Value}{ad':OA}{cap' b':Nat}(h:Lf w base v k x A C hb)(hat:∀i,i<k->Qf c i (x i) (A i) (C i))(ho:w'.ownsRow base 53 9 v' (k+1) (AJ (k*9) c++[.i (x k).ver,.bool (x k).gone,.s (x k).ob.kind,.s (x k).ob.name,.i (x k).ob.ver,.i (x k).ob.born,.s (x k).ob.text,.bool (x k).ob.ending,.l ad' (x k).ob.hn cap']))(hg:w.grownBy w' v.ownBlock)(hw:v'.ownBlock=v.ownBlock\/v'.ownBlock=some w.1.size)(hs:Bp w b' (b'+1) ad' (x k).ob.hn (x k).ob.hs)(hl:(x k).ob.hn≠0->base<=b'/\b'<w.1.size)(hv:(x k).ob.hn≠0->v.ownBlock≠some b')(hd:∀i,i<k->(x i).ob.hn≠0->(x k).ob.hn≠0->hb i≠b'):Lf w' base v' (k+1) x (B7 A k ad') (B7 C k cap') (B7 hb k b'):=by
 have F:=BH hg;refine⟨⟨SS c (k*9) [.i (x k).ver,.bool (x k).gone,.s (x k).ob.kind,.s (x k).ob.name,.i (x k).ob.ver,.i (x k).ob.born,.s (x k).ob.text,.bool (x k).ob.ending,.l ad' (x k).ob.hn cap'],?_,λi hi=>?_⟩,λi hi=>?_,λi hi h0=>?_,λi hi h0=>?_,λi j hi hj h0 h1 e=>?_⟩
 .rw[Lr]at ho;have e:k*9+([.i (x k).ver,.bool (x k).gone,.s (x k).ob.kind,.s (x k).ob.name,.i (x k).ob.ver,.i (x k).ob.born,.s (x k).ob.text,.bool (x k).ob.ending,.l ad' (x k).ob.hn cap']:List Value).length=(k+1)*9:=by show k*9+9=_;omega
  rw[e]at ho;exact ho
 .by_cases e:i=k;.subst e;rw[Bh,Bh];exact⟨Oi _ _ _,Cp _ _ _ 1,Cp _ _ _ 2,Cp _ _ _ 3,Cp _ _ _ 4,Cp _ _ _ 5,Cp _ _ _ 6,Cp _ _ _ 7,Cp _ _ _ 8⟩
  .rw[Bz _ _ e,Bz _ _ e];obtain⟨a0,a1,a2,a3,a4,a5,a6,a7,a8⟩:=hat i Za;exact⟨(if_pos Za).trans a0,(if_pos Za).trans a1,(if_pos Za).trans a2,(if_pos Za).trans a3,(if_pos Za).trans a4,(if_pos Za).trans a5,(if_pos Za).trans a6,(if_pos Za).trans a7,(if_pos Za).trans a8⟩
 .exact gL
 .exact jO
 .exact bZ
 .exact gQ
theorem Lf.done{w:World}{base:Nat}{v:Value}{k:Nat}{x:Nat->Ch}{A:Nat->Option Addr}{C hb:Nat->Nat}(h:Lf w base v k x A C hb):∃ad cap g,v=.l ad k cap/\k<=cap/\LP w ad g k x A C hb/\∀q,LW g k (λi=>(x i).ob.hn) hb q->base<=q:=by
 obtain⟨c,r,hat⟩:=h.row;rcases r.2 with⟨rfl,rfl⟩|⟨g,cap,cur,rfl,h1,_,hcap,_⟩;.exact⟨none,0,0,rfl,AG _,⟨λh0=>absurd h0 (AY _),λh0=>absurd h0 (AY _),λi hi=>absurd hi (Ai _),λi hi=>absurd hi (Ai _),⟨λi hi=>absurd hi (Ai _),λi j hi=>absurd hi (Ai _)⟩⟩,λq hq=>by
   rcases hq with⟨h0,_⟩|⟨i,hi,_⟩;.exact absurd h0 (AY _)
   .exact absurd hi (Ai _)⟩
 .refine⟨_,cap,g,rfl,hcap,⟨λ_=>rfl,λ_=>⟨c,OP r,hat⟩,h.hold,λi hi h0=>(h.hlt i hi h0).2,⟨λi hi h0 e=>h.ne i hi h0 (by rw[e];rfl),h.inj⟩⟩,λq hq=>?_⟩;rcases hq with⟨h0,rfl⟩|⟨i,hi,h0,rfl⟩;.exact h1
  .exact(h.hlt i hi h0).1
end Go.Proofs.YtnnjcenacidceaaGreat
namespace Go.Proofs.YtnnjcenacidceaaGreat
open Go.RowKit Go.Proofs.Tryz
structure PS where
 m:Nat
 y:Nat->Ob
 done:Bool
def Cz (o xi:Ob)(s:PS):PS:=if s.done then(if EU xi o=0 then s else⟨s.m+1,B7 s.y s.m xi,true⟩)else if EU xi o<0 then⟨s.m+1,B7 s.y s.m xi,false⟩else if EU xi o=0 then⟨s.m+1,B7 s.y s.m o,true⟩else⟨s.m+1+1,B7 (B7 s.y s.m o) (s.m+1) xi,true⟩
def Fm (x:Nat->Ob)(o:Ob)(gone:Bool):Nat->PS
 |0=>⟨0,λ_=>o,gone⟩
 |i+1=>Cz o (x i) (Fm x o gone i)
def OY (o:Ob)(s:PS):PS:=if s.done then s else⟨s.m+1,B7 s.y s.m o,true⟩
def KV (n:Nat)(x:Nat->Ob)(o:Ob)(gone:Bool):PS:=OY o (Fm x o gone n)
theorem So (x:Nat->Ob)(o:Ob)(gone:Bool):∀k,(Fm x o gone k).m+(if(Fm x o gone k).done then 0 else 1)<=k+1
 |0=>by show 0+(if gone then 0 else 1)<=1;split<;>omega
 |k+1=>by have ih:=So x o gone k;show(Cz o (x k) (Fm x o gone k)).m+(if(Cz o (x k) (Fm x o gone k)).done then 0 else 1)<=k+1+1;unfold Cz;cases hd:(Fm x o gone k).done with
  |true=>
   rw[hd]at ih;simp only[if_true]at ih⊢;split;.omega
   .simp;omega
  |false=>
   rw[hd]at ih;simp only[G7,if_false]at ih⊢;split;.simp;omega
   .split;.simp;omega
    .simp;omega
theorem AD.frP{w w':World}{lo hi:Nat}{ad:OA}{n:Nat}{s:Nat->ByteArray}{P:Nat->Prop}(h:AD w lo hi ad n s)(hf:Ay P w w')(hh:hi<=w.1.size)(hp:∀q,q<hi->¬P q):AD w' lo hi ad n s:=λi hi'=>by obtain⟨b,off,e1,e2,e3,e4⟩:=h i hi';exact⟨b,off,e1,e2,e3,(hf.cell (p:=⟨b,off+i,none⟩) (Ad e3 hh) (hp b e3)).trans e4⟩
structure j0 (w:World)(base lo hi:Nat)(v:Value)(m:Nat)(y:Nat->Ob)(A:Nat->Option Addr)(C:Nat->Nat):Prop where
 row:∃c,w.ownsRow base 51 7 v m (AJ (m*7) c)/\∀i,i<m->P8 c i (y i) (A i) (C i)hold:∀i,i<m->AD w lo hi (A i) (y i).hn (y i).hs
theorem j0.grow{w w':World}{base lo hi:Nat}{v:Value}{m:Nat}{y:Nat->Ob}{A:Nat->Option Addr}{C:Nat->Nat}(h:j0 w base lo hi v m y A C)(hh:hi<=w.1.size)(hf:Below w.1.size w w'):j0 w' base lo hi v m y A C:=⟨by obtain⟨c,r,e⟩:=h.row;exact⟨c,Lt r (Ar (P:=λ_=>False) hf) (λ_ _ h=>h),e⟩,λi hi'=>(h.hold i hi').frP (Ar (P:=λ_=>False) hf) hh (λ_ _ h=>h)⟩
theorem j0.app{w w':World}{base lo hi:Nat}{v v':Value}{m:Nat}{y:Nat->Ob}{A:Nat->Option Addr}{C:Nat->Nat}{c:Nat->Value}{o:Ob}{ad':OA}{cap':Nat}(h:j0 w base lo hi v m y A C)(hat:∀i,i<m->P8 c i (y i) (A i) (C i))(ho:w'.ownsRow base 51 7 v' (m+1) (AJ (m*7) c++[.s o.kind,.s o.name,.i o.ver,.i o.born,.s o.text,.bool o.ending,.l ad' o.hn cap']))(hg:w.grownBy w' v.ownBlock)(hv:∀q,v.ownBlock=some q->base<=q)(hs:AD w lo hi ad' o.hn o.hs)(hhb:hi<=base)(hhw:hi<=w.1.size):j0 w' base lo hi v' (m+1) (B7 y m o) (B7 A m ad') (B7 C m cap'):=by
 have F:=BH hg;have np:∀q,q<hi->¬v.ownBlock=some q:=λq hq e=>by have:=hv q e;omega
 refine⟨⟨SS c (m*7) [.s o.kind,.s o.name,.i o.ver,.i o.born,.s o.text,.bool o.ending,.l ad' o.hn cap'],?_,λi hi'=>?_⟩,λi hi'=>?_⟩
 .rw[Lr]at ho;have e:m*7+([.s o.kind,.s o.name,.i o.ver,.i o.born,.s o.text,.bool o.ending,.l ad' o.hn cap']:List Value).length=(m+1)*7:=by show m*7+7=_;omega
  rw[e]at ho;exact ho
 .by_cases e:i=m
  .subst e;rw[Bh,Bh,Bh];exact⟨Oi _ _ _,Cp _ _ _ 1,Cp _ _ _ 2,Cp _ _ _ 3,Cp _ _ _ 4,Cp _ _ _ 5,Cp _ _ _ 6⟩
  .rw[Bz _ _ e,Bz _ _ e,Bz _ _ e];exact iJ
 .by_cases e:i=m;.subst e;rw[Bh,Bh];exact hs.frP F hhw np
  .rw[Bz _ _ e,Bz _ _ e];exact(h.hold i Za).frP F hhw np
theorem dN{P:Prop}(h:P:=by
  have BW2:=Aj (BD1.grow Za (Ap w1 (.cells (vO (x k) ah ch) 51)));obtain⟨cc2,hown2,hat2⟩:=BW2.row;have Wc:=Aj hat2;clear hat2;go_wp2_with (at_builtin;go_must(refine wpList_append_own_at _ rfl _ _ 23 rfl (w.1.size+1) 51 i0 _ 7 96 underlying23 hi0 hz0 hz1 hz2 rfl Zb _ (m) (AJ ((m)*7) cc2) rfl hown2 ⟨w1.1.size,0,none⟩ 1 1 [.s (x k).kind,.s (x k).name,.i (x k).ver,.i (x k).born,.s (x k).text,.bool (x k).ending,.l ah (x k).hn ch] rfl rfl (Fj w1 _ 51) jW Zl Za Zd ?_;intro v2 u2 hown2' hgrow2 hnil2 hwh2;clear hnil2 hwh2));have zu2:=hgrow2.size;simp only[Av]at zu2;have BD2':=Aj (BW2.app (cap':=ch) Wc hown2' hgrow2 (λq hq=>(hown2.lt q hq).1) ((vD.out).alloc Za _) Za Zd);have B2':Below (w.1.size+1) (w.alloc (.cells #[.i c.ver,.bool c.gone,.s c.ob.kind,.s c.ob.name,.i c.ob.ver,.i c.ob.born,.s c.ob.text,.bool c.ob.ending,.l adc c.ob.hn capc] 53)) u2:=(b1.alloc Za _).trans ((BH hgrow2).below (λq hq e=>by have:=(hown2.lt q e).1;omega) Zd);clear hown2 hown2' hgrow2;go_roundw;case rel=>exact⟨k+1,_,_,Za,by go_num,by rw[STEP.out,E.out],B2',by rw[STEP.out,E.out];exact BD2'⟩
  case measure=>simp[intOf];omega):P:=h
theorem YX (n:Nat)(x:Nat->Ob)(ad:OA)(cap:Nat)(c:Ch)(adc:OA)(capc:Nat)(w:World)(lo hi:Nat)(hhi:hi<=w.1.size)(hl:(n:Int)<=1048576)(hc:BS w lo hi ad n x)(hcs:AD w lo hi adc c.ob.hn c.ob.hs):Calls prog 92 #[.l ad n cap,.agg #[.i c.ver,.bool c.gone,.s c.ob.kind,.s c.ob.name,.i c.ob.ver,.i c.ob.born,.s c.ob.text,.bool c.ob.ending,.l adc c.ob.hn capc]] w λe w'=>∃v A C,e=.returned v/\j0 w' (w.1.size+1) lo hi v (KV n x c.ob c.gone).m (KV n x c.ob c.gone).y A C/\Below w.1.size w w':=by
 obtain⟨i0,hi0,hz0,hz1,hz2⟩:=info_parts Mh;have HC:=Aj hc;have xO:=Aj hcs;clear hc hcs;go_enter func92,ntmps92;go_wp2;have bd0:j0 ((w.alloc (.cells #[.i c.ver,.bool c.gone,.s c.ob.kind,.s c.ob.name,.i c.ob.ver,.i c.ob.born,.s c.ob.text,.bool c.ob.ending,.l adc c.ob.hn capc] 53)).alloc (.cells #[] 51)) (w.1.size+1) lo hi (.l (some ⟨w.1.size+1,0,none⟩) 0 0) 0 (λ_=>c.ob) (λ_=>none) (λ_=>0):=⟨⟨λ_=>.i 0,by simpa[AJ]using G8 (base:=w.1.size+1) (e:=51) (size:=7) (w.alloc (.cells #[.i c.ver,.bool c.gone,.s c.ob.kind,.s c.ob.name,.i c.ob.ver,.i c.ob.born,.s c.ob.text,.bool c.ob.ending,.l adc c.ob.hn capc] 53)) #[] 0 Zc To rfl,λi hi=>absurd hi (Ai _)⟩,λi hi=>absurd hi (Ai _)⟩;go_loopw[5,6,7](λo d i wr=>∃(k:Nat)(A:Nat->Option Addr)(C:Nat->Nat),k<=n/\i=.i k/\d=.bool (Fm x c.ob c.gone k).done/\Below (w.1.size+1) (w.alloc (.cells #[.i c.ver,.bool c.gone,.s c.ob.kind,.s c.ob.name,.i c.ob.ver,.i c.ob.born,.s c.ob.text,.bool c.ob.ending,.l adc c.ob.hn capc] 53)) wr/\j0 wr (w.1.size+1) lo hi o (Fm x c.ob c.gone k).m (Fm x c.ob c.gone k).y A C)(λ_ _ i _=>n-(intOf i).toNat);case atStart=>exact⟨0,_,_,At _,rfl,rfl,by simpa using Ap (w.alloc (.cells #[.i c.ver,.bool c.gone,.s c.ob.kind,.s c.ob.name,.i c.ob.ver,.i c.ob.born,.s c.ob.text,.bool c.ob.ending,.l adc c.ob.hn capc] 53)) (.cells #[] 51),bd0⟩
 case round=>
  clear bd0;obtain⟨k,A,C,hk,rfl,rfl,b0,bd⟩:=hrel;have hBw:Below w.1.size w wr:=(Ap _ _).trans (b0.mono Za);have hsz:w.1.size+1<=wr.1.size:=by have:=b0.size;simpa using this
  have hle:=So x c.ob c.gone k;have LE:=Aj hle;have o2:=Au (by simpa using b0) 2;have o3:=Au (by simpa using b0) 3;have o4:=Au (by simpa using b0) 4;have o5:=Au (by simpa using b0) 5;have o6:=Au (by simpa using b0) 6;have o7:=Au (by simpa using b0) 7;have o8:=Au (by simpa using b0) 8;simp only[Ag,Af,Ae]at o2 o3 o4 o5 o6 o7 o8;obtain⟨S,hS⟩:∃S,Fm x c.ob c.gone k=S:=⟨_,rfl⟩;rw[hS]at bd LE⊢;have HS:=Aj hS;clear hS hle;have BD:=Aj bd;clear bd;by_cases hkn:k<n
  .obtain⟨b,off,ah,ch,rfl,hlo,hbh,hcx,hsx⟩:=HC k hkn;obtain⟨d0,d1,d2,d3,d4,d5,d6⟩:=hcx.below hBw Za;have HX:=Aj hcx;have rN:=Aj hsx;clear hcx hsx;have x0:=Ak d0 Zk;have x1:=Ak d1 Zk;have x2:=Ak d2 Zk;have x3:=Ak d3 Zk;have x4:=Ak d4 Zk;have x5:=Ak d5 Zk;have x6:=Ak d6 Zk;have y2:=Ak o2 Zg;have y3:=Ak o3 Zg;have y4:=Ak o4 Zg;have y5:=Ak o5 Zg;have y6:=Ak o6 Zg;have y7:=Ak o7 Zg;have y8:=Ak o8 Zg;have hne:Nonempty (GW wr):=⟨⟨_,Aq _ _⟩⟩;go_wp2;refine AI Ze Ze ?_;repeat(go_big_quiet_step((go_at_call 50;go_must(exact Bm (Oj (x k) c.ob _ _ _ _ _)))))
   refine wpQuiet_nil ?_;rintro w1 ⟨u,hu⟩;have hw1:Below wr.1.size wr w1:=hu▸u.prop;clear hu u hne x0 x1 x2 x3 x4 x5 x6 y2 y3 y4 y5 y6 y7 y8;have z1:=hw1.size;have b1:=b0.trans (hw1.mono Za);have hBw1:Below w.1.size w w1:=(Ap _ _).trans (b1.mono Za);have BD1:=Aj (BD.grow Za hw1);have vD:=Aj (rN.below hBw1 hhi);have tA:=Aj (xO.below hBw1 hhi);obtain⟨e0,e1,e2,e3,e4,e5,e6⟩:=HX.below hBw1 Za;have p2:=(hw1.cell (p:=⟨w.1.size,2,none⟩) Zg).trans o2;have p3:=(hw1.cell (p:=⟨w.1.size,3,none⟩) Zg).trans o3;have p4:=(hw1.cell (p:=⟨w.1.size,4,none⟩) Zg).trans o4;have p5:=(hw1.cell (p:=⟨w.1.size,5,none⟩) Zg).trans o5;have p6:=(hw1.cell (p:=⟨w.1.size,6,none⟩) Zg).trans o6;have p7:=(hw1.cell (p:=⟨w.1.size,7,none⟩) Zg).trans o7;have p8:=(hw1.cell (p:=⟨w.1.size,8,none⟩) Zg).trans o8;have STEP:=Aj (show Fm x c.ob c.gone (k+1)=Cz c.ob (x k) S by show Cz c.ob (x k) (Fm x c.ob c.gone k)=_;rw[HS.out]);clear d0 d1 d2 d3 d4 d5 d6 o2 o3 o4 o5 o6 o7 o8 hw1 BD;obtain⟨kk,hkk⟩:∃kk,EU (x k) c.ob=kk:=⟨_,rfl⟩;rw[hkk];have sL:=Aj hkk;clear hkk;obtain⟨m,y,dn⟩:=S;dsimp only at BD1 LE STEP⊢;cases dn with
   |true=>
    have hm:m<=k+1:=by have:=LE.out;simp at this;omega
    by_cases h0:kk=0
    .subst h0;have E:=Aj (show Cz c.ob (x k) ⟨m,y,true⟩=⟨m,y,true⟩by unfold Cz;simp[sL.out]);go_wp2;go_roundw;case rel=>exact⟨k+1,_,_,Za,by go_num,by rw[STEP.out,E.out],b1,by rw[STEP.out,E.out];exact BD1⟩
     case measure=>simp[intOf];omega
    .have E:=Aj (show Cz c.ob (x k) ⟨m,y,true⟩=⟨m+1,B7 y m (x k),true⟩by unfold Cz;simp[sL.out,h0]);exact dN
   |false=>
    have hm:m<=k:=by have:=LE.out;simp at this;omega
    by_cases hneg:kk<0
    .have E:=Aj (show Cz c.ob (x k) ⟨m,y,false⟩=⟨m+1,B7 y m (x k),false⟩by unfold Cz;simp[sL.out,hneg]);have hnz:¬kk=0:=Za;exact dN
    .by_cases h0:kk=0
     .subst h0;have E:=Aj (show Cz c.ob (x k) ⟨m,y,false⟩=⟨m+1,B7 y m c.ob,true⟩by unfold Cz;simp[sL.out]);have BW2:=Aj (BD1.grow Za (Ap w1 (.cells (vO c.ob adc capc) 51)));obtain⟨cc2,hown2,hat2⟩:=BW2.row;have Wc:=Aj hat2;clear hat2;go_wp2_with (at_builtin;go_must(refine wpList_append_own_at _ rfl _ _ 23 rfl (w.1.size+1) 51 i0 _ 7 96 underlying23 hi0 hz0 hz1 hz2 rfl Zb _ (m) (AJ ((m)*7) cc2) rfl hown2 ⟨w1.1.size,0,none⟩ 1 1 [.s c.ob.kind,.s c.ob.name,.i c.ob.ver,.i c.ob.born,.s c.ob.text,.bool c.ob.ending,.l adc c.ob.hn capc] rfl rfl (Fj w1 _ 51) jW Zl Za Zd ?_;intro v2 u2 hown2' hgrow2 hnil2 hwh2;clear hnil2 hwh2));have zu2:=hgrow2.size;simp only[Av]at zu2;have BD2':=Aj (BW2.app (cap':=capc) Wc hown2' hgrow2 (λq hq=>(hown2.lt q hq).1) ((tA.out).alloc Za _) Za Zd);have B2':Below (w.1.size+1) (w.alloc (.cells #[.i c.ver,.bool c.gone,.s c.ob.kind,.s c.ob.name,.i c.ob.ver,.i c.ob.born,.s c.ob.text,.bool c.ob.ending,.l adc c.ob.hn capc] 53)) u2:=(b1.alloc Za _).trans ((BH hgrow2).below (λq hq e=>by have:=(hown2.lt q e).1;omega) Zd);clear hown2 hown2' hgrow2;go_roundw;case rel=>exact⟨k+1,_,_,Za,by go_num,by rw[STEP.out,E.out],B2',by rw[STEP.out,E.out];exact BD2'⟩
      case measure=>simp[intOf];omega
     .have E:=Aj (show Cz c.ob (x k) ⟨m,y,false⟩=⟨m+1+1,B7 (B7 y m c.ob) (m+1) (x k),true⟩by unfold Cz;simp[sL.out,hneg,h0]);have BW2:=Aj (BD1.grow Za (Ap w1 (.cells (vO c.ob adc capc) 51)));obtain⟨cc2,hown2,hat2⟩:=BW2.row;have Wc:=Aj hat2;clear hat2;go_upto_region 10 with(at_builtin;go_must(refine wpList_append_own_at _ rfl _ _ 23 rfl (w.1.size+1) 51 i0 _ 7 96 underlying23 hi0 hz0 hz1 hz2 rfl Zb _ (m) (AJ ((m)*7) cc2) rfl hown2 ⟨w1.1.size,0,none⟩ 1 1 [.s c.ob.kind,.s c.ob.name,.i c.ob.ver,.i c.ob.born,.s c.ob.text,.bool c.ob.ending,.l adc c.ob.hn capc] rfl rfl (Fj w1 _ 51) jW Zl Za Zd ?_;intro v2 u2 hown2' hgrow2 hnil2 hwh2;clear hnil2 hwh2));have zu2:=hgrow2.size;simp only[Av]at zu2;have BD2':=Aj (BW2.app (cap':=capc) Wc hown2' hgrow2 (λq hq=>(hown2.lt q hq).1) ((tA.out).alloc Za _) Za Zd);have B2':Below (w.1.size+1) (w.alloc (.cells #[.i c.ver,.bool c.gone,.s c.ob.kind,.s c.ob.name,.i c.ob.ver,.i c.ob.born,.s c.ob.text,.bool c.ob.ending,.l adc c.ob.hn capc] 53)) u2:=(b1.alloc Za _).trans ((BH hgrow2).below (λq hq e=>by have:=(hown2.lt q e).1;omega) Zd);clear hown2 hown2' hgrow2;clear e0 e1 e2 e3 e4 e5 e6 p2 p3 p4 p5 p6 p7 p8;have hBw2:Below w.1.size w u2:=(Ap _ _).trans (B2'.mono Za);obtain⟨e0,e1,e2,e3,e4,e5,e6⟩:=HX.below hBw2 Za;have u9:=Aj (rN.below hBw2 hhi);have BW3:=Aj (BD2'.grow Za (Ap u2 (.cells (vO (x k) ah ch) 51)));obtain⟨cc3,hown3,hat3⟩:=BW3.row;have wH:=Aj hat3;clear hat3;go_wp2_with (at_builtin;go_must(refine wpList_append_own_at _ rfl _ _ 23 rfl (w.1.size+1) 51 i0 _ 7 96 underlying23 hi0 hz0 hz1 hz2 rfl Zb _ (m+1) (AJ ((m+1)*7) cc3) rfl hown3 ⟨u2.1.size,0,none⟩ 1 1 [.s (x k).kind,.s (x k).name,.i (x k).ver,.i (x k).born,.s (x k).text,.bool (x k).ending,.l ah (x k).hn ch] rfl rfl (Fj u2 _ 51) jW Zl Za Zd ?_;intro v3 u3 hown3' hgrow3 hnil3 hwh3;clear hnil3 hwh3));have zu3:=hgrow3.size;simp only[Av]at zu3;have BD3':=Aj (BW3.app (cap':=ch) wH hown3' hgrow3 (λq hq=>(hown3.lt q hq).1) ((u9.out).alloc Za _) Za Zd);have B3':Below (w.1.size+1) (w.alloc (.cells #[.i c.ver,.bool c.gone,.s c.ob.kind,.s c.ob.name,.i c.ob.ver,.i c.ob.born,.s c.ob.text,.bool c.ob.ending,.l adc c.ob.hn capc] 53)) u3:=(B2'.alloc Za _).trans ((BH hgrow3).below (λq hq e=>by have:=(hown3.lt q e).1;omega) Zd);clear hown3 hown3' hgrow3;go_roundw;case rel=>exact⟨k+1,_,_,Za,by go_num,by rw[STEP.out,E.out],B3',by rw[STEP.out,E.out];exact BD3'⟩
      case measure=>simp[intOf];omega
  .have hke:k=n:=Za;subst hke;obtain⟨m,y,dn⟩:=S;dsimp only at BD LE⊢;have hBw:Below w.1.size w wr:=(Ap _ _).trans (b0.mono Za);have HCSr:=Aj (xO.below hBw hhi);have xR:=Aj (show KV k x c.ob c.gone=OY c.ob ⟨m,y,dn⟩by unfold KV;rw[HS.out]);cases dn with
   |true=>have E:=Aj (show OY c.ob ⟨m,y,true⟩=⟨m,y,true⟩from rfl);go_wp2;go_ret;exact⟨_,rfl,⟨A,C,by rw[xR.out,E.out];exact BD⟩,hBw⟩
   |false=>
    have hm:m<=k:=by have:=LE.out;simp at this;omega
    have E:=Aj (show OY c.ob ⟨m,y,false⟩=⟨m+1,B7 y m c.ob,true⟩from rfl);have BW2:=Aj (BD.grow Za (Ap wr (.cells (vO c.ob adc capc) 51)));obtain⟨cc2,hown2,hat2⟩:=BW2.row;have Wc:=Aj hat2;clear hat2;go_wp2_with (at_builtin;go_must(refine wpList_append_own_at _ rfl _ _ 23 rfl (w.1.size+1) 51 i0 _ 7 96 underlying23 hi0 hz0 hz1 hz2 rfl Zb _ (m) (AJ ((m)*7) cc2) rfl hown2 ⟨wr.1.size,0,none⟩ 1 1 [.s c.ob.kind,.s c.ob.name,.i c.ob.ver,.i c.ob.born,.s c.ob.text,.bool c.ob.ending,.l adc c.ob.hn capc] rfl rfl (Fj wr _ 51) jW Zl Za Zd ?_;intro v2 u2 hown2' hgrow2 hnil2 hwh2;clear hnil2 hwh2));have zu2:=hgrow2.size;simp only[Av]at zu2;have BD2':=Aj (BW2.app (cap':=capc) Wc hown2' hgrow2 (λq hq=>(hown2.lt q hq).1) ((HCSr.out).alloc Za _) Za Zd);have B2':Below (w.1.size+1) (w.alloc (.cells #[.i c.ver,.bool c.gone,.s c.ob.kind,.s c.ob.name,.i c.ob.ver,.i c.ob.born,.s c.ob.text,.bool c.ob.ending,.l adc c.ob.hn capc] 53)) u2:=(b0.alloc Za _).trans ((BH hgrow2).below (λq hq e=>by have:=(hown2.lt q e).1;omega) Zd);clear hown2 hown2' hgrow2;go_ret;exact⟨_,_,_,rfl,by rw[xR.out,E.out];exact BD2',(Ap _ _).trans (B2'.mono Za)⟩
end Go.Proofs.YtnnjcenacidceaaGreat
namespace Go.Proofs.YtnnjcenacidceaaGreat
open Go.RowKit Go.Proofs.Tryz
theorem PQ{w:World}{base e z n:Nat}{v:Value}{c:Nat->Value}(h:w.ownsRow base e z v n (AJ (n*z) c))(hn:0<n):∃g cap,v=.l (some ⟨g,0,none⟩) n cap/\base<=g/\AN w g (n*z) c:=by
 rcases h.2 with⟨rfl,h0⟩|⟨g,cap,cur,rfl,h1,_⟩;.omega
 .exact⟨g,cap,rfl,h1,OP h⟩
theorem VR{w:World}{g:Nat}{c:Nat->Value}{v0 v1 v2 v3 v4:Value}(h:AN w g 5 c):AN (((((w.setCell ⟨g,0,none⟩ v0).setCell ⟨g,1,none⟩ v1).setCell ⟨g,2,none⟩ v2).setCell ⟨g,3,none⟩ v3).setCell ⟨g,4,none⟩ v4) g 5 (AW [v0,v1,v2,v3,v4]):=by have r:=((((h.set (o:=0) Za v0).set (o:=1) Za v1).set (o:=2) Za v2).set (o:=3) Za v3).set (o:=4) Za v4;refine⟨r.lt,r.free,λj hj=>(r.cell j hj).trans (congrArg some ?_)⟩;rcases(show j=0\/j=1\/j=2\/j=3\/j=4 by omega)with rfl|rfl|rfl|rfl|rfl<;>rfl
end Go.Proofs.YtnnjcenacidceaaGreat
namespace Go.Proofs.YtnnjcenacidceaaGreat
open Go.RowKit Go.Proofs.Tryz
theorem jP{P:Prop}(h:P:=by
  have e':(q i).2.2=(q j).2.2:=e;rcases LN i j with c|c|c;.have:=LJ h.mono (show i+1<=j by omega) Za;omega
  .exact c
  .have:=LJ h.mono (show j+1<=i by omega) Za;omega):P:=h
theorem Mq.at{w:World}{g hi n:Nat}{x:Nat->Ob}{r:Nat->Nat}(h:Mq w g hi n n x r):∃A C hb,Lc w (some ⟨g,0,none⟩) g n x A C hb/\(∀i,i<n->Lh w (x i).hn (A i) (C i))/\∀q,LW g n (λi=>(x i).hn) hb q->g<=q/\q<hi:=by
 have h1:∀i,∃q:Option Addr×(Nat×Nat),i<n->Eo w g (i*7) (x i) q.1 q.2.1/\Bp w q.2.2 (q.2.2+1) q.1 (x i).hn (x i).hs/\((x i).hn≠0->r i<=q.2.2/\q.2.2<r (i+1))/\Lh w (x i).hn q.1 q.2.1:=λi=>by
  by_cases hi':i<n;.obtain⟨ah,ch,e1,e2,cg⟩:=h.at_ i hi';obtain⟨b,e3,e4⟩:=e2.one;exact⟨(ah,ch,b),λ_=>⟨e1,e3,e4,cg⟩⟩
  .exact⟨(none,0,0),λh=>absurd h hi'⟩
 obtain⟨q,hq⟩:=Classical.skolem.1 h1;have rl:∀i,i<=n->r 0<=r i/\r i<=r n:=λi hi'=>⟨LJ h.mono To hi',LJ h.mono hi' AQ⟩;have e:∀j v,w.cell? ⟨g,j,none⟩=some v->(w.cell? ⟨g,j,none⟩).getD (.i 0)=v:=λj v h=>by rw[h];rfl
 refine⟨λi=>(q i).1,λi=>(q i).2.1,λi=>(q i).2.2,⟨λ_=>rfl,λ_=>⟨λj=>(w.cell? ⟨g,j,none⟩).getD (.i 0),⟨h.room.lt,h.room.free,λj hj=>?_⟩,λi hi'=>?_⟩,λi hi'=>(hq i hi').2.1,λi hi' h0=>?_,⟨λi hi' h0=>?_,λi j hi' hj h0 h1 e=>?_⟩⟩,λi hi'=>(hq i hi').2.2.2,λk hk=>?_⟩;.obtain⟨u,hu⟩:=h.room.has j hj;rw[hu];rfl
 .have k:=(hq i hi').1;exact⟨(e (i*7) _ k.c0),(e (i*7+1) _ k.c1),(e (i*7+2) _ k.c2),(e (i*7+3) _ k.c3),(e (i*7+4) _ k.c4),(e (i*7+5) _ k.c5),(e (i*7+6) _ k.c6)⟩
 .have:=((hq i hi').2.2.1 h0).2;have h2:=(rl (i+1) Za).2;have h3:=h.rn;have h4:=h.hi;omega
 .have:=((hq i hi').2.2.1 h0).1;have h2:=(rl i Za).1;have h3:=h.r0;show(q i).2.2≠g;omega
 .have a1:=(hq i hi').2.2.1 h0;have a2:=(hq j hj).2.2.1 h1;exact jP
 .have h3:=h.r0;have h4:=h.rn;have h5:=rl 0 Za;rcases hk with⟨h0,rfl⟩|⟨i,hi',h0,rfl⟩;.omega
  .have a1:=(hq i hi').2.2.1 h0;have h6:=(rl i Za).1;have h7:=(rl (i+1) Za).2;show g<=(q i).2.2/\(q i).2.2<hi;omega
theorem Mn.at{w:World}{g hi n:Nat}{x:Nat->Ch}{r:Nat->Nat}(h:Mn w g hi n n x r):∃A C hb,LP w (some ⟨g,0,none⟩) g n x A C hb/\∀q,LW g n (λi=>(x i).ob.hn) hb q->g<=q/\q<hi:=by
 have h1:∀i,∃q:Option Addr×(Nat×Nat),i<n->C4 w g (i*9) (x i) q.1 q.2.1/\Bp w q.2.2 (q.2.2+1) q.1 (x i).ob.hn (x i).ob.hs/\((x i).ob.hn≠0->r i<=q.2.2/\q.2.2<r (i+1)):=λi=>by
  by_cases hi':i<n;.obtain⟨ah,ch,e1,e2⟩:=h.at_ i hi';obtain⟨b,e3,e4⟩:=e2.one;exact⟨(ah,ch,b),λ_=>⟨e1,e3,e4⟩⟩
  .exact⟨(none,0,0),λh=>absurd h hi'⟩
 obtain⟨q,hq⟩:=Classical.skolem.1 h1;have rl:∀i,i<=n->r 0<=r i/\r i<=r n:=λi hi'=>⟨LJ h.mono To hi',LJ h.mono hi' AQ⟩;have e:∀j v,w.cell? ⟨g,j,none⟩=some v->(w.cell? ⟨g,j,none⟩).getD (.i 0)=v:=λj v h=>by rw[h];rfl
 refine⟨λi=>(q i).1,λi=>(q i).2.1,λi=>(q i).2.2,⟨λ_=>rfl,λ_=>⟨λj=>(w.cell? ⟨g,j,none⟩).getD (.i 0),⟨h.room.lt,h.room.free,λj hj=>?_⟩,λi hi'=>?_⟩,λi hi'=>(hq i hi').2.1,λi hi' h0=>?_,⟨λi hi' h0=>?_,λi j hi' hj h0 h1 e=>?_⟩⟩,λk hk=>?_⟩;.obtain⟨u,hu⟩:=h.room.has j hj;rw[hu];rfl
 .have k:=(hq i hi').1;exact⟨(e (i*9) _ k.c0),(e (i*9+1) _ k.c1),(e (i*9+2) _ k.c2),(e (i*9+3) _ k.c3),(e (i*9+4) _ k.c4),(e (i*9+5) _ k.c5),(e (i*9+6) _ k.c6),(e (i*9+7) _ k.c7),(e (i*9+8) _ k.c8)⟩
 .have:=((hq i hi').2.2 h0).2;have h2:=(rl (i+1) Za).2;have h3:=h.rn;have h4:=h.hi;omega
 .have:=((hq i hi').2.2 h0).1;have h2:=(rl i Za).1;have h3:=h.r0;show(q i).2.2≠g;omega
 .have a1:=(hq i hi').2.2 h0;have a2:=(hq j hj).2.2 h1;exact jP
 .have h3:=h.r0;have h4:=h.rn;have h5:=rl 0 Za;rcases hk with⟨h0,rfl⟩|⟨i,hi',h0,rfl⟩;.omega
  .have a1:=(hq i hi').2.2 h0;have h6:=(rl i Za).1;have h7:=(rl (i+1) Za).2;show g<=(q i).2.2/\(q i).2.2<hi;omega
theorem Mo.at{w:World}{g n:Nat}{x:Nat->Ti}(h:Mo w g n n x):MP w (some ⟨g,0,none⟩) g n x:=by
 have e:∀j v,w.cell? ⟨g,j,none⟩=some v->(w.cell? ⟨g,j,none⟩).getD (.i 0)=v:=λj v h=>by rw[h];rfl
 refine⟨λ_=>rfl,λ_=>⟨λj=>(w.cell? ⟨g,j,none⟩).getD (.i 0),⟨h.room.lt,h.room.free,λj hj=>?_⟩,λi hi'=>?_⟩⟩;.obtain⟨u,hu⟩:=h.room.has j hj;rw[hu];rfl
 .have k:=h.at_ i hi';exact⟨(e (i*5) _ k.c0),(e (i*5+1) _ k.c1),(e (i*5+2) _ k.c2),(e (i*5+3) _ k.c3),(e (i*5+4) _ k.c4)⟩
theorem XY.atC{w:World}{lo hi:Nat}{x:Bk}{g1 g2 g3:Nat}(h:XY w lo hi x g1 g2 g3):∃p:Pl,p.a1=some ⟨g1,0,none⟩/\p.a2=some ⟨g2,0,none⟩/\p.a3=some ⟨g3,0,none⟩/\KF w x p/\(∀i,i<x.on->Lh w (x.os i).hn (p.A1 i) (p.C1 i))/\∀q,Ff p x q->lo<=q/\q<hi:=by
 obtain⟨⟨h1,r1,o1,o2⟩,⟨h2,r2,c1,c2⟩,ti,glo,ghi,gtop⟩:=h;obtain⟨A1,C1,b1,at1,cg1,k1⟩:=o1.at;obtain⟨A2,C2,b2,at2,k2⟩:=c1.at;have x1:=o1.r0;have x2:=o1.rn;have x3:=LJ o1.mono (At x.on) AQ;have y1:=c1.r0;have y2:=c1.rn;have y3:=LJ c1.mono (At x.hn) AQ;refine⟨⟨some ⟨g1,0,none⟩,some ⟨g2,0,none⟩,some ⟨g3,0,none⟩,g1,g2,g3,A1,C1,b1,A2,C2,b2⟩,rfl,rfl,rfl,⟨at1,at2,ti.at,λk e1 e2=>?_,λk e1 e2=>?_,λk e1 e2=>?_⟩,cg1,λk e=>?_⟩;.have a:=k1 k e1;have b:=k2 k e2;omega
 .have a:=k1 k e1;have b:k=g3:=e2.2;omega
 .have a:=k2 k e1;have b:k=g3:=e2.2;omega
 .rcases e with e|e|e;.have a:=k1 k e;omega
  .have a:=k2 k e;omega
  .have b:k=g3:=e.2;omega
theorem XY.at{w:World}{lo hi:Nat}{x:Bk}{g1 g2 g3:Nat}(h:XY w lo hi x g1 g2 g3):∃p:Pl,p.a1=some ⟨g1,0,none⟩/\p.a2=some ⟨g2,0,none⟩/\p.a3=some ⟨g3,0,none⟩/\KF w x p/\∀q,Ff p x q->lo<=q/\q<hi:=by obtain⟨p,h1,h2,h3,h4,_,h5⟩:=h.atC;exact⟨p,h1,h2,h3,h4,h5⟩
def LK (W:World)(B:Nat)(c:Array Value):Prop:=∀i,W.cell? ⟨B,i,none⟩=c[i]?
theorem LK.fr{W W':World}{B lo hi:Nat}{c:Array Value}(h:LK W B c)(hb:Fr lo hi W W')(hB:B<W.1.size)(ho:B<lo\/hi<=B):LK W' B c:=λi=>(hb.cell (p:=⟨B,i,none⟩) hB ho).trans (h i)
theorem LK.below{W W':World}{B n:Nat}{c:Array Value}(h:LK W B c)(hb:Below n W W')(hB:B<n):LK W' B c:=λi=>(hb.cell (p:=⟨B,i,none⟩) hB).trans (h i)
def Pf (x:Bk)(a1 a2 a3:OA)(c1 c2 c3:Nat):Array Value:=(vB x a1 a2 a3 c1 c2 c3)
end Go.Proofs.YtnnjcenacidceaaGreat
namespace Go.Proofs.YtnnjcenacidceaaGreat
open Go.RowKit Go.Maps Go.Proofs.Tryz
structure EO where
 ob:Ob
 A:Option Addr
 C:Nat
 hb:Nat
instance:Inhabited EO:=⟨⟨⟨ByteArray.empty,ByteArray.empty,0,0,ByteArray.empty,false,0,λ_=>ByteArray.empty⟩,none,0,0⟩⟩
def U7 (L:List EO)(i:Nat):EO:=(L[i]?).getD default
theorem hH{L:List EO}{i:Nat}(h:i<L.length):U7 L i=L[i]:=by simp[U7,h]
theorem Yb{L:List EO}{i:Nat}(h:i<L.length):U7 L i∈L:=by rw[hH h];exact Nz h
structure Sv (w:World)(g:Nat)(L:List EO):Prop where
 lt:g<w.1.size
 free:∀j,w.frozen? ⟨g,j,none⟩=false
 ob:∀i,i<L.length->Eo w g (i*7) (U7 L i).ob (U7 L i).A (U7 L i).C
theorem Eo.frP{w w':World}{P:Nat->Prop}{b o:Nat}{x:Ob}{ad:OA}{cap:Nat}(h:Eo w b o x ad cap)(hf:Ay P w w')(hb:b<w.1.size)(hp:¬P b):Eo w' b o x ad cap:=have e:∀j,w'.cell? ⟨b,j,none⟩=w.cell? ⟨b,j,none⟩:=λj=>hf.cell (p:=⟨b,j,none⟩) hb hp
 ⟨(e _).trans h.c0,(e _).trans h.c1,(e _).trans h.c2,(e _).trans h.c3,(e _).trans h.c4,(e _).trans h.c5,(e _).trans h.c6⟩
theorem Sv.fr{w w':World}{P:Nat->Prop}{g:Nat}{L:List EO}(h:Sv w g L)(hf:Ay P w w')(hp:¬P g):Sv w' g L:=⟨Ad h.lt hf.size,λj=>(hf.frozen (p:=⟨g,j,none⟩) h.lt hp).trans (h.free j),λi hi=>(h.ob i hi).frP hf h.lt hp⟩
theorem Sv.grow{w w':World}{g:Nat}{L:List EO}(h:Sv w g L)(hf:Below w.1.size w w'):Sv w' g L:=h.fr (Ar (P:=λ_=>False) hf) (λh=>h)
structure TC (w:World)(L:List EO):Prop where
 hold:∀e,e∈L->Bp w e.hb (e.hb+1) e.A e.ob.hn e.ob.hs
 lt:∀e,e∈L->e.ob.hn≠0->e.hb<w.1.size
 ap:L.Pairwise λe f=>e.ob.hn≠0->f.ob.hn≠0->e.hb≠f.hb
theorem TC.fr{w w':World}{P:Nat->Prop}{L:List EO}(h:TC w L)(hf:Ay P w w')(hp:∀e,e∈L->e.ob.hn≠0->¬P e.hb):TC w' L:=⟨λe he=>(h.hold e he).frP hf (λh0=>⟨hp e he h0,h.lt e he h0⟩),λe he h0=>Ad (h.lt e he h0) hf.size,h.ap⟩
theorem TC.grow{w w':World}{L:List EO}(h:TC w L)(hf:Below w.1.size w w'):TC w' L:=h.fr (Ar (P:=λ_=>False) hf) (λ_ _ _ h=>h)
theorem Sv.cellAt{w:World}{g:Nat}{L:List EO}(h:Sv w g L){j:Nat}(hj:j<L.length*7):∃v,w.cell? ⟨g,j,none⟩=some v:=by
 have hi:j/7<L.length:=Za;obtain⟨c0,c1,c2,c3,c4,c5,c6⟩:=h.ob (j/7) hi;have hr:j%7=0\/j%7=1\/j%7=2\/j%7=3\/j%7=4\/j%7=5\/j%7=6:=Za;rcases hr with e|e|e|e|e|e|e;.exact⟨_,by rw[show j=j/7*7 by omega];exact c0⟩
 .exact⟨_,by rw[show j=j/7*7+1 by omega];exact c1⟩
 .exact⟨_,by rw[show j=j/7*7+2 by omega];exact c2⟩
 .exact⟨_,by rw[show j=j/7*7+3 by omega];exact c3⟩
 .exact⟨_,by rw[show j=j/7*7+4 by omega];exact c4⟩
 .exact⟨_,by rw[show j=j/7*7+5 by omega];exact c5⟩
 .exact⟨_,by rw[show j=j/7*7+6 by omega];exact c6⟩
def Nh (m:Nat)(y:Nat->Ob):List Ob:=(List.range m).map y
theorem Rg (m:Nat)(y:Nat->Ob):Nh (m+1) y=Nh m y++[y m]:=by simp[Nh,N7]
theorem TP (m:Nat)(y:Nat->Ob):(Nh m y).length=m:=by simp[Nh]
theorem Nu (m:Nat)(y:Nat->Ob)(z:Ob):Nh (m+1) (B7 y m z)=Nh m y++[z]:=by
 rw[Rg];have h1:Nh m (B7 y m z)=Nh m y:=by unfold Nh;apply List.map_congr_left;intro i hi;have:=BC.1 hi;exact if_neg Za
 rw[h1];simp[B7]
theorem Mp (x z:Ob):EU x z<0↔Fi x z=true:=by have h:=UP x z;cases hb:Fi x z with
 |true=>rw[hb]at h;simp at h;simp;omega
 |false=>rw[hb]at h;simp at h;simp;omega
theorem Np (x z:Ob):EU x z=0↔(x.kind.toList=z.kind.toList/\x.name.toList=z.name.toList):=by
 unfold EU;constructor
 .intro h;split at h;.exact absurd h Zb
  .split at h
   .rename_i h2;split at h;.exact absurd h Zb
    .split at h;.rename_i h3;exact⟨h2,h3⟩
     .exact absurd h Zb
   .exact absurd h Zb
 .rintro⟨h1,h2⟩;rw[if_neg (by rw[L3 h1];decide),if_pos h1,if_neg (by rw[L3 h2];decide),if_pos h2]
def Li (o y:Ob):Bool:=decide (¬EU y o=0)
def M5 (o:Ob):List Ob->List Ob
 |[]=>[o]
 |y::r=>if Fi y o then y::M5 o r else o::(y::r).filter (Li o)
def Ry (o:Ob)(gone:Bool)(l:List Ob):List Ob:=if gone then l.filter (Li o)else M5 o l
theorem QD{x:Nat->Ob}{o:Ob}:∀n,Nh (Fm x o true n).m (Fm x o true n).y=(Nh n x).filter (Li o)/\(Fm x o true n).done=true
 |0=>⟨rfl,rfl⟩
 |n+1=>by
  obtain⟨h1,h2⟩:=QD (x:=x) (o:=o) n;rw[Rg,List.filter_append];show Nh (Cz o (x n) (Fm x o true n)).m (Cz o (x n) (Fm x o true n)).y=_/\(Cz o (x n) (Fm x o true n)).done=true;unfold Cz;rw[h2,if_pos rfl];by_cases hk:EU (x n) o=0;.rw[if_pos hk];exact⟨by rw[h1];simp[Li,hk],h2⟩
  .rw[if_neg hk];exact⟨by rw[Nu,h1];simp[Li,hk],rfl⟩
def M3 (o:Ob):List Ob->List Ob×Bool
 |[]=>([],false)
 |y::r=>if Fi y o then(y::(M3 o r).1,(M3 o r).2)else(o::(y::r).filter (Li o),true)
theorem Tg (o z:Ob):∀l,M3 o (l++[z])=if(M3 o l).2 then((M3 o l).1++[z].filter (Li o),true)else if Fi z o then((M3 o l).1++[z],false)else((M3 o l).1++(o::[z].filter (Li o)),true)
 |[]=>by simp only[Em,M3];cases Fi z o<;>simp
 |y::r=>by
  have ih:=Tg o z r;by_cases hb:Fi y o=true
  .simp only[CV,M3,if_pos hb,ih];by_cases h1:(M3 o r).2=true;.simp only[if_pos h1]
   .simp only[if_neg h1];by_cases h2:Fi z o=true;.simp only[if_pos h2]
    .simp only[if_neg h2]
  .simp only[CV,M3,if_neg hb,if_true];rw[<-CV,List.filter_append]
theorem eQ (o:Ob):∀l,M5 o l=if(M3 o l).2 then(M3 o l).1 else(M3 o l).1++[o]
 |[]=>rfl
 |y::r=>by
  have ih:=eQ o r;by_cases hb:Fi y o=true
  .simp only[M5,M3,if_pos hb,ih];by_cases h1:(M3 o r).2=true;.simp only[if_pos h1]
   .simp only[if_neg h1,CV]
  .simp only[M5,M3,if_neg hb,if_true]
theorem Qu{x:Nat->Ob}{o:Ob}:∀n,Nh (Fm x o false n).m (Fm x o false n).y=(M3 o (Nh n x)).1/\(Fm x o false n).done=(M3 o (Nh n x)).2
 |0=>⟨rfl,rfl⟩
 |n+1=>by obtain⟨h1,h2⟩:=Qu (x:=x) (o:=o) n;rw[Rg,Tg];show Nh (Cz o (x n) (Fm x o false n)).m (Cz o (x n) (Fm x o false n)).y=_/\(Cz o (x n) (Fm x o false n)).done=_;unfold Cz;rw[h2];have kn:=Mp (x n) o;cases hd:(M3 o (Nh n x)).2 with
  |true=>
   simp only[if_true];by_cases hk:EU (x n) o=0;.rw[if_pos hk];exact⟨by rw[h1];simp[Li,hk],by rw[h2,hd]⟩
   .rw[if_neg hk];exact⟨by rw[Nu,h1];simp[Li,hk],rfl⟩
  |false=>
   simp only[G7,if_false];by_cases hn:EU (x n) o<0;.rw[if_pos hn,if_pos (kn.1 hn)];exact⟨by rw[Nu,h1],rfl⟩
   .have hb:¬Fi (x n) o=true:=λh=>hn (kn.2 h);rw[if_neg hn,if_neg hb];by_cases hk:EU (x n) o=0;.rw[if_pos hk];exact⟨by rw[Nu,h1];simp[Li,hk],rfl⟩
    .rw[if_neg hk];refine⟨?_,rfl⟩;show Nh ((Fm x o false n).m+1+1) _=_;rw[Nu,Nu,h1];simp[Li,hk]
theorem TM (n:Nat)(x:Nat->Ob)(o:Ob)(gone:Bool):Nh (KV n x o gone).m (KV n x o gone).y=Ry o gone (Nh n x):=by unfold KV OY Ry;cases gone with
 |true=>obtain⟨h1,h2⟩:=QD (x:=x) (o:=o) n;rw[h2];simpa using h1
 |false=>obtain⟨h1,h2⟩:=Qu (x:=x) (o:=o) n;simp only[G7,if_false];rw[h2,eQ];cases hd:(M3 o (Nh n x)).2 with
  |true=>simpa using h1
  |false=>simp only[G7,if_false];rw[Nu,h1]
end Go.Proofs.YtnnjcenacidceaaGreat
namespace Go.Proofs.YtnnjcenacidceaaGreat
open Go.RowKit Go.Proofs.Tryz
structure Wr where
 op:Int
 kind:ByteArray
 name:ByteArray
 seen:Int
 text:ByteArray
 hold:ByteArray
abbrev vW (x:Wr):Array Value:=#[.i x.op,.s x.kind,.s x.name,.i x.seen,.s x.text,.s x.hold]
abbrev bp (x:Wr):List Value:=[.i x.op,.s x.kind,.s x.name,.i x.seen,.s x.text,.s x.hold]
structure Sy (w:Wr):Prop where
 k:(w.kind.size:Int)<=140737488355328
 n:(w.name.size:Int)<=140737488355328
 t:(w.text.size:Int)<=140737488355328
 h:(w.hold.size:Int)<=140737488355328
def PP (s:ByteArray):Bool:=decide (s=⟨#[]⟩)
def LR (w:Wr):Bool:=if w.op=1 then decide (w.seen=0)else if w.op=2 then PP w.hold else if w.op=3 then PP w.text&&PP w.hold else if w.op=4 then PP w.text&&!PP w.hold else if w.op=5 then PP w.text&&!PP w.hold else false
def KG (w:Wr):Bool:=BB w.kind&&(BB w.name&&(decide (0<=w.seen)&&(decide (w.text.size<=300)&&(PP w.hold||BB w.hold))))
def LF (w:Wr):Bool:=KG w&&LR w
theorem FQ{a b:ByteArray}(h:a.toList=b.toList):a=b:=by cases a with|mk a=>cases b with|mk b=>
 have h2:a.toList=b.toList:=by simpa[ByteArray.toList_eq]using h
 exact congrArg ByteArray.mk (Array.ext' h2)
theorem ND{s:ByteArray}(h:¬s=⟨#[]⟩):(s.toList==(⟨#[]⟩:ByteArray).toList)=false:=by cases hb:(s.toList==(⟨#[]⟩:ByteArray).toList)with
 |false=>rfl
 |true=>exact absurd (FQ Zr) h
theorem B8{s:ByteArray}(h:¬s=⟨#[]⟩):¬s.toList=[]:=λe=>h (FQ (e.trans (by simp[ByteArray.toList_eq])))
end Go.Proofs.YtnnjcenacidceaaGreat
namespace Go.Proofs.YtnnjcenacidceaaGreat
open Go.RowKit Go.Proofs.Tryz
def Nl (n:Nat)(s:Nat->ByteArray)(a:ByteArray):Bool:=!Bg (λi=>!decide (s i=a)) n
theorem XN{n:Nat}{s:Nat->ByteArray}{a:ByteArray}(h:∀i,i<n->¬s i=a):Nl n s a=false:=by unfold Nl;rw[AV.2 (λi hi=>by simp[h i hi])];rfl
theorem Su{n:Nat}{s:Nat->ByteArray}{a:ByteArray}{k:Nat}(hk:k<n)(h:s k=a):Nl n s a=true:=by unfold Nl;rw[A9 (p:=λi=>!decide (s i=a)) hk (by simp[h])];rfl
theorem bN{a b:ByteArray}(h:¬a=b):(a.toList==b.toList)=false:=by cases hb:(a.toList==b.toList)with
 |false=>rfl
 |true=>exact absurd (FQ Zr) h
theorem Nn (n:Nat)(s:Nat->ByteArray)(ad:OA)(cap:Nat)(a:ByteArray)(w:World)(lo hi:Nat)(hl:(n:Int)<=140737488355328)(hc:AD w lo hi ad n s):Calls prog 100 #[.l ad n cap,.s a] w λe w'=>e=.returned (.bool (Nl n s a))/\w'=w:=by
 go_enter func100,ntmps100;go_wp2;go_loopw[5](λi wr=>∃k:Nat,k<=n/\i=.i k/\wr=w/\∀j,j<k->¬s j=a)(λi _=>n-(intOf i).toNat);case atStart=>exact⟨0,At _,rfl,rfl,λj hj=>absurd hj (Ai _)⟩
 case round=>
  obtain⟨k,hk,rfl,rfl,hall⟩:=hrel;have HA:=Aj hall;clear hall;by_cases hkn:k<n
  .obtain⟨b,off,rfl,hlo,hbh,hcx⟩:=hc k hkn;clear hc;by_cases he:s k=a
   .subst he;have HE:=Aj (Su (a:=s k) hkn rfl);go_wp2;go_ret;exact⟨Az HE.symm,rfl⟩
   .have hb:=bN he;have HN:=Aj he;clear he;go_wp2;go_roundw;case rel=>exact⟨k+1,Za,by go_num,by first|trivial|rfl,λj hj=>(by
     rcases Aw j k with h3|h3;.exact HA j h3
     .have:j=k:=Za;subst this;exact HN)⟩
    case measure=>simp[intOf];omega
  .have HE:=Aj (XN (n:=n) (s:=s) (a:=a) (λi hi=>HA.out i Za));clear hc;go_wp2;go_ret;exact⟨Az HE.symm,rfl⟩
end Go.Proofs.YtnnjcenacidceaaGreat
namespace Go.Proofs.YtnnjcenacidceaaGreat
open Go.RowKit Go.Proofs.Tryz
theorem lT{a b:ByteArray}(h:¬a=b):(a.toList==b.toList)=false:=by cases hb:(a.toList==b.toList)with
 |false=>rfl
 |true=>exact absurd (FQ Zr) h
end Go.Proofs.YtnnjcenacidceaaGreat
namespace Go.Proofs.YtnnjcenacidceaaGreat
open Go.RowKit Go.Proofs.Tryz
def Uu (x:Nat->Ob)(ki na:ByteArray)(i:Nat):Int:=fV (LD (x i).kind ki) (LD (x i).name na)
theorem lI (x:Nat->Ob)(z:Ob)(i:Nat):Uu x z.kind z.name i=EU (x i) z:=by unfold Uu EU fV LD;cases h1:K9 (x i).kind z.kind with
 |true=>simp
 |false=>
  by_cases h2:(x i).kind.toList=z.kind.toList;.cases h3:K9 (x i).name z.name with
   |true=>simp[h2]
   |false=>by_cases h4:(x i).name.toList=z.name.toList<;>simp[h2,h4]
  .simp[h2]
theorem NR:∀{a b c:List UInt8},Op.bytesLess a b=true->Op.bytesLess b c=true->Op.bytesLess a c=true
 |[],_::_,[],_,h=>by simp[Op.bytesLess]at h
 |[],[],_,h,_=>by simp[Op.bytesLess]at h
 |[],_::_,_::_,_,_=>by simp[Op.bytesLess]
 |_::_,[],_,h,_=>by simp[Op.bytesLess]at h
 |_::_,_::_,[],_,h=>by simp[Op.bytesLess]at h
 |p::a,q::b,r::c,h1,h2=>by
  simp only[Op.bytesLess,Ms,Am,decide_eq_true_eq,beq_iff_eq]at h1 h2⊢;rcases h1 with h1|⟨h1,h1'⟩
  .rcases h2 with h2|⟨h2,_⟩;.exact AB (UInt8.lt_trans h1 h2)
   .exact AB (h2▸h1)
  .rcases h2 with h2|⟨h2,h2'⟩;.exact AB (h1▸h2)
   .exact AE ⟨h1.trans h2,NR h1' h2'⟩
theorem Ni{a b c:ByteArray}(h1:K9 a b=true)(h2:K9 b c=true):K9 a c=true:=NR h1 h2
end Go.Proofs.YtnnjcenacidceaaGreat
