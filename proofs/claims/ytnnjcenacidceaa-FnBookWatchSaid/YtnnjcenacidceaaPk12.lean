import Derived.Test.YtnnjcenacidceaaPk07
import Derived.Test.YtnnjcenacidceaaPk11
import Derived.Maps.AppendAt
import Derived.Test.YtnnjcenacidceaaPk08
import Derived.Deep.Cut
import Derived.Deep.CutRange
import Derived.Test.YtnnjcenacidceaaPk02
import Derived.Deep.RegionLaw
import Derived.Test.YtnnjcenacidceaaPk10
import Derived.Test.YtnnjcenacidceaaPk06
set_option maxRecDepth 100000
set_option maxHeartbeats 4000000
namespace Go.Proofs.Ytnnjcenacidceaa
open Go.RowKit Go.Proofs.Try
theorem BI{w w':World}{row:Option Nat}(h:w.grownBy w' row):Az (λq=>row=some q) w w':=⟨h.os,h.tape,h.output,h.size,λk hk ho=>h.block k hk (λe=>ho e.symm)⟩
theorem Mi{w w':World}{base e z n:Nat}{v:Value}{xs:List Value}{P:Nat->Prop}(h:w.ownsRow base e z v n xs)(hf:Az P w w')(hp:∀g,v.ownBlock=some g->¬P g):w'.ownsRow base e z v n xs:=by
 refine⟨h.1,?_⟩;rcases h.2 with h0|⟨g,cap,cur,rfl,h1,h2,h3⟩;.exact AA h0
 .exact AC ⟨g,cap,cur,rfl,h1,(hf.block g (AK.1 h2).1 (hp g rfl)).trans h2,h3⟩
theorem Bz.one{w:World}{lo hi:Nat}{ad:OA}{n:Nat}{s:Nat->ByteArray}(h:Bz w lo hi ad n s):∃b,Bz w b (b+1) ad n s/\(n≠0->lo<=b/\b<hi):=by
 by_cases h0:n=0;.subst h0;exact⟨0,Bz.zero,λh=>absurd rfl h⟩
 .obtain⟨b,off,e1,e2,e3,_⟩:=h 0 Za;refine⟨b,λi hi=>?_,λ_=>⟨e2,e3⟩⟩;obtain⟨b',off',f1,f2,f3,f4⟩:=h i hi;rw[e1]at f1;cases f1;exact⟨b,off,e1,AD _,By _,f4⟩
theorem E5 (w:World)(l:List Value)(t:TypeId):∀j u,l[j]?=some u->(w.alloc (.cells l.toArray t)).cell? ((⟨w.1.size,0,none⟩:Addr).add j)=some u:=by intro j u h;rw[show((⟨w.1.size,0,none⟩:Addr).add j)=⟨w.1.size,j,none⟩by unfold Addr.add;split<;>simp_all,Ak];simpa using h
def Ts (c:Nat->Value)(m:Nat)(news:List Value):Nat->Value:=λj=>if j<m then c j else news.getD (j-m) (.i 0)
theorem Pp (c:Nat->Value)(m:Nat)(news:List Value):Ts c m news m=news.getD 0 (.i 0):=by unfold Ts;rw[if_neg (AY _),Nat.sub_self]
theorem Ea (c:Nat->Value)(m:Nat)(news:List Value)(j:Nat):Ts c m news (m+j)=news.getD j (.i 0):=by unfold Ts;rw[if_neg Za,Cl]
theorem LV (c:Nat->Value)(m:Nat)(news:List Value):AM m c++news=AM (m+news.length) (Ts c m news):=by
 apply List.ext_getElem;.simp[AM]
 .intro j h1 h2;have hj:j<m+news.length:=by simpa[AM]using h2
  rw[Da,List.getElem_append];unfold Ts;by_cases h:j<m;.rw[dif_pos (by rw[AW];exact h),Da,if_pos h]
  .rw[dif_neg (by rw[AW];exact h),if_neg h];simp only[AW];rw[Be,Bh Za];rfl
theorem Ov{w:World}{base e z n g cap:Nat}{c:Nat->Value}(h:w.ownsRow base e z (.l (some ⟨g,0,none⟩) n cap) n (AM (n*z) c)):AN w g (n*z) c:=by refine⟨(h.lt g rfl).2,λj=>h.frozenAt j,λj hj=>?_⟩;rw[h.cellAt j hj,Bh (by rw[AW];exact hj),Da]
theorem kD.frB{w w':World}{base b n cap:Nat}{ad:OA}{s:Nat->ByteArray}{P:Nat->Prop}(h:kD w base ad n cap)(hs:Bz w b (b+1) ad n s)(hf:Az P w w')(hp:n≠0->¬P b):kD w' base ad n cap:=by
 refine⟨h.le,h.z,λh0=>?_⟩;have hn:n≠0:=λe=>by have:=h.z e;omega
 obtain⟨g,e,hg,rm⟩:=h.rm h0;obtain⟨b',off,e',l1,l2,_⟩:=hs 0 Za;rw[e]at e';injection e' with e';injection e' with e1 e2;have hgb:g=b:=Za;refine⟨g,e,hg,⟨λj hj=>?_,λj=>(hf.frozen (p:=⟨g,j,none⟩) rm.lt (hgb▸hp hn)).trans (rm.free j),Ac rm.lt hf.size⟩⟩;obtain⟨u,hu⟩:=rm.has j hj;exact⟨u,(hf.cell (p:=⟨g,j,none⟩) rm.lt (hgb▸hp hn)).trans hu⟩
theorem kD.base{w:World}{base b' n cap:Nat}{ad:OA}(h:kD w base ad n cap)(hb:b'<=base):kD w b' ad n cap:=⟨h.le,h.z,λh0=>by obtain⟨g,e,hg,rm⟩:=h.rm h0;exact⟨g,e,Za,rm⟩⟩
structure Ok (w:World)(base:Nat)(v:Value)(k:Nat)(x:Nat->Ob)(A:Nat->Option Addr)(C hb:Nat->Nat):Prop where
 row:∃c,w.ownsRow base 38 7 v k (AM (k*7) c)/\∀i,i<k->RZ c i (x i) (A i) (C i)hold:∀i,i<k->Bz w (hb i) (hb i+1) (A i) (x i).hn (x i).hs
 hlt:∀i,i<k->(x i).hn≠0->base<=hb i/\hb i<w.1.size
 ne:∀i,i<k->(x i).hn≠0->v.ownBlock≠some (hb i)inj:∀i j,i<k->j<k->(x i).hn≠0->(x j).hn≠0->hb i=hb j->i=j
 rm:∀i,i<k->kD w base (A i) (x i).hn (C i)
theorem Ok.fr{w:World}{base:Nat}{v:Value}{k:Nat}{x:Nat->Ob}{A:Nat->Option Addr}{C hb:Nat->Nat}{w':World}{P:Nat->Prop}(h:Ok w base v k x A C hb)(hf:Az P w w')(hp:∀q,base<=q->q<w.1.size->¬P q):Ok w' base v k x A C hb:=⟨by obtain⟨c,r,e⟩:=h.row;exact⟨c,Mi r hf (λg hg=>hp g (r.lt g hg).1 (r.lt g hg).2),e⟩,λi hi=>(h.hold i hi).frP hf (λh0=>⟨hp _ (h.hlt i hi h0).1 (h.hlt i hi h0).2,(h.hlt i hi h0).2⟩),λi hi h0=>⟨(h.hlt i hi h0).1,Ac (h.hlt i hi h0).2 hf.size⟩,h.ne,h.inj,λi hi=>(h.rm i hi).frB (h.hold i hi) hf (λh0=>hp _ (h.hlt i hi h0).1 (h.hlt i hi h0).2)⟩
theorem Ok.grow{w:World}{base:Nat}{v:Value}{k:Nat}{x:Nat->Ob}{A:Nat->Option Addr}{C hb:Nat->Nat}{w':World}(h:Ok w base v k x A C hb)(hf:Below w.1.size w w'):Ok w' base v k x A C hb:=h.fr (Aq (P:=λ_=>False) hf) (λ_ _ _ h=>h)
theorem gJ{P:Prop}(h:P:=by
  by_cases e1:i=k
  .by_cases e2:j=k;.rw[e1,e2]
   .subst e1;rw[Bt,BP _ _ e2]at e;exact absurd e.symm (hd j Za h1 h0)
  .by_cases e2:j=k;.subst e2;rw[Bt,BP _ _ e1]at e;exact absurd e (hd i Za h0 h1)
   .rw[BP _ _ e1,BP _ _ e2]at e;exact h.inj i j Za Za h0 h1 e):P:=h
theorem ZY{P:Prop}(h:P:=by
  by_cases e:i=k
  .subst e;rw[Bt];rcases hw with hw|hw;.rw[hw];exact hv h0
   .rw[hw];intro q;cases q;exact AY _ (hl h0).2
  .rw[BP _ _ e];rcases hw with hw|hw;.rw[hw];exact h.ne i Za h0
   .rw[hw];intro q;have h2:=(h.hlt i Za h0).2;injection q with q;omega):P:=h
theorem eV{P:Prop}(h:P:=by obtain⟨a0,a1,a2,a3,a4,a5,a6⟩:=hat i Za;exact⟨(if_pos Za).trans a0,(if_pos Za).trans a1,(if_pos Za).trans a2,(if_pos Za).trans a3,(if_pos Za).trans a4,(if_pos Za).trans a5,(if_pos Za).trans a6⟩):P:=h
theorem Z7{P:Prop}(h:P:=by
  by_cases e:i=k;.subst e;rw[Bt,Bt];exact hs.frP F (λh0=>⟨hv h0,(hl h0).2⟩)
  .rw[BP _ _ e,BP _ _ e];exact(h.hold i Za).frP F (λh0=>⟨h.ne i Za h0,(h.hlt i Za h0).2⟩)):P:=h
theorem aL{P:Prop}(h:P:=by
  by_cases e:i=k;.subst e;rw[Bt];exact⟨(hl h0).1,Ac (hl h0).2 hg.size⟩
  .rw[BP _ _ e];exact⟨(h.hlt i Za h0).1,Ac (h.hlt i Za h0).2 hg.size⟩):P:=h
theorem Ok.app{w:World}{base:Nat}{v:Value}{k:Nat}{x:Nat->Ob}{A:Nat->Option Addr}{C hb:Nat->Nat}{w':World}{v':Value}{c:Nat->Value}{ad':OA}{cap' b':Nat}(h:Ok w base v k x A C hb)(hat:∀i,i<k->RZ c i (x i) (A i) (C i))(ho:w'.ownsRow base 38 7 v' (k+1) (AM (k*7) c++[.s (x k).kind,.s (x k).name,.i (x k).ver,.i (x k).born,.s (x k).text,.bool (x k).ending,.l ad' (x k).hn cap']))(hg:w.grownBy w' v.ownBlock)(hw:v'.ownBlock=v.ownBlock\/v'.ownBlock=some w.1.size)(hs:Bz w b' (b'+1) ad' (x k).hn (x k).hs)(hl:(x k).hn≠0->base<=b'/\b'<w.1.size)(hv:(x k).hn≠0->v.ownBlock≠some b')(hd:∀i,i<k->(x i).hn≠0->(x k).hn≠0->hb i≠b')(hrm:kD w base ad' (x k).hn cap'):Ok w' base v' (k+1) x (B8 A k ad') (B8 C k cap') (B8 hb k b'):=by
 have F:=BI hg;refine⟨⟨Ts c (k*7) [.s (x k).kind,.s (x k).name,.i (x k).ver,.i (x k).born,.s (x k).text,.bool (x k).ending,.l ad' (x k).hn cap'],?_,λi hi=>?_⟩,λi hi=>?_,λi hi h0=>?_,λi hi h0=>?_,λi j hi hj h0 h1 e=>?_,λi hi=>?_⟩
 .rw[LV]at ho;have e:k*7+([.s (x k).kind,.s (x k).name,.i (x k).ver,.i (x k).born,.s (x k).text,.bool (x k).ending,.l ad' (x k).hn cap']:List Value).length=(k+1)*7:=by show k*7+7=_;omega
  rw[e]at ho;exact ho
 .by_cases e:i=k
  .subst e;rw[Bt,Bt];exact⟨Pp _ _ _,Ea _ _ _ 1,Ea _ _ _ 2,Ea _ _ _ 3,Ea _ _ _ 4,Ea _ _ _ 5,Ea _ _ _ 6⟩
  .rw[BP _ _ e,BP _ _ e];exact eV
 .exact Z7
 .exact aL
 .exact ZY
 .exact gJ
 .by_cases hik:i=k;.subst hik;simp only[Bt];exact hrm.frB hs F (λh0 e=>hv h0 e)
  .simp only[BP _ _ hik];exact(h.rm i Za).frB (h.hold i Za) F (λh0 e=>h.ne i Za h0 e)
theorem Ok.done{w:World}{base:Nat}{v:Value}{k:Nat}{x:Nat->Ob}{A:Nat->Option Addr}{C hb:Nat->Nat}(h:Ok w base v k x A C hb):∃ad cap g,v=.l ad k cap/\L0 w ad g k x A C hb/\∀q,Md g k (λi=>(x i).hn) hb q->base<=q:=by
 obtain⟨c,r,hat⟩:=h.row;rcases r.2 with⟨rfl,rfl⟩|⟨g,cap,cur,rfl,h1,_⟩;.exact⟨none,0,0,rfl,⟨λh0=>absurd h0 (AY _),λh0=>absurd h0 (AY _),λi hi=>absurd hi (Aj _),λi hi=>absurd hi (Aj _),⟨λi hi=>absurd hi (Aj _),λi j hi=>absurd hi (Aj _)⟩⟩,λq hq=>by
   rcases hq with⟨h0,_⟩|⟨i,hi,_⟩;.exact absurd h0 (AY _)
   .exact absurd hi (Aj _)⟩
 .refine⟨_,cap,g,rfl,⟨λ_=>rfl,λ_=>⟨c,Ov r,hat⟩,h.hold,λi hi h0=>(h.hlt i hi h0).2,⟨λi hi h0 e=>h.ne i hi h0 (by rw[e];rfl),h.inj⟩⟩,λq hq=>?_⟩;rcases hq with⟨h0,rfl⟩|⟨i,hi,h0,rfl⟩;.exact h1
  .exact(h.hlt i hi h0).1
structure Kx (w:World)(base:Nat)(v:Value)(k:Nat)(x:Nat->Ch)(A:Nat->Option Addr)(C hb:Nat->Nat):Prop where
 row:∃c,w.ownsRow base 40 9 v k (AM (k*9) c)/\∀i,i<k->Qr c i (x i) (A i) (C i)hold:∀i,i<k->Bz w (hb i) (hb i+1) (A i) (x i).ob.hn (x i).ob.hs
 hlt:∀i,i<k->(x i).ob.hn≠0->base<=hb i/\hb i<w.1.size
 ne:∀i,i<k->(x i).ob.hn≠0->v.ownBlock≠some (hb i)inj:∀i j,i<k->j<k->(x i).ob.hn≠0->(x j).ob.hn≠0->hb i=hb j->i=j
theorem Kx.fr{w:World}{base:Nat}{v:Value}{k:Nat}{x:Nat->Ch}{A:Nat->Option Addr}{C hb:Nat->Nat}{w':World}{P:Nat->Prop}(h:Kx w base v k x A C hb)(hf:Az P w w')(hp:∀q,base<=q->q<w.1.size->¬P q):Kx w' base v k x A C hb:=⟨by obtain⟨c,r,e⟩:=h.row;exact⟨c,Mi r hf (λg hg=>hp g (r.lt g hg).1 (r.lt g hg).2),e⟩,λi hi=>(h.hold i hi).frP hf (λh0=>⟨hp _ (h.hlt i hi h0).1 (h.hlt i hi h0).2,(h.hlt i hi h0).2⟩),λi hi h0=>⟨(h.hlt i hi h0).1,Ac (h.hlt i hi h0).2 hf.size⟩,h.ne,h.inj⟩
theorem Kx.grow{w:World}{base:Nat}{v:Value}{k:Nat}{x:Nat->Ch}{A:Nat->Option Addr}{C hb:Nat->Nat}{w':World}(h:Kx w base v k x A C hb)(hf:Below w.1.size w w'):Kx w' base v k x A C hb:=h.fr (Aq (P:=λ_=>False) hf) (λ_ _ _ h=>h)
theorem Kx.app{w:World}{base:Nat}{v:Value}{k:Nat}{x:Nat->Ch}{A:Nat->Option Addr}{C hb:Nat->Nat}{w':World}{v':Value}{c:Nat->Value}{ad':OA}{cap' b':Nat}(h:Kx w base v k x A C hb)(hat:∀i,i<k->Qr c i (x i) (A i) (C i))(ho:w'.ownsRow base 40 9 v' (k+1) (AM (k*9) c++[.i (x k).ver,.bool (x k).gone,.s (x k).ob.kind,.s (x k).ob.name,.i (x k).ob.ver,.i (x k).ob.born,.s (x k).ob.text,.bool (x k).ob.ending,.l ad' (x k).ob.hn cap']))(hg:w.grownBy w' v.ownBlock)(hw:v'.ownBlock=v.ownBlock\/v'.ownBlock=some w.1.size)(hs:Bz w b' (b'+1) ad' (x k).ob.hn (x k).ob.hs)(hl:(x k).ob.hn≠0->base<=b'/\b'<w.1.size)(hv:(x k).ob.hn≠0->v.ownBlock≠some b')(hd:∀i,i<k->(x i).ob.hn≠0->(x k).ob.hn≠0->hb i≠b'):Kx w' base v' (k+1) x (B8 A k ad') (B8 C k cap') (B8 hb k b'):=by
 have F:=BI hg;refine⟨⟨Ts c (k*9) [.i (x k).ver,.bool (x k).gone,.s (x k).ob.kind,.s (x k).ob.name,.i (x k).ob.ver,.i (x k).ob.born,.s (x k).ob.text,.bool (x k).ob.ending,.l ad' (x k).ob.hn cap'],?_,λi hi=>?_⟩,λi hi=>?_,λi hi h0=>?_,λi hi h0=>?_,λi j hi hj h0 h1 e=>?_⟩
 .rw[LV]at ho;have e:k*9+([.i (x k).ver,.bool (x k).gone,.s (x k).ob.kind,.s (x k).ob.name,.i (x k).ob.ver,.i (x k).ob.born,.s (x k).ob.text,.bool (x k).ob.ending,.l ad' (x k).ob.hn cap']:List Value).length=(k+1)*9:=by show k*9+9=_;omega
  rw[e]at ho;exact ho
 .by_cases e:i=k;.subst e;rw[Bt,Bt];exact⟨Pp _ _ _,Ea _ _ _ 1,Ea _ _ _ 2,Ea _ _ _ 3,Ea _ _ _ 4,Ea _ _ _ 5,Ea _ _ _ 6,Ea _ _ _ 7,Ea _ _ _ 8⟩
  .rw[BP _ _ e,BP _ _ e];obtain⟨a0,a1,a2,a3,a4,a5,a6,a7,a8⟩:=hat i Za;exact⟨(if_pos Za).trans a0,(if_pos Za).trans a1,(if_pos Za).trans a2,(if_pos Za).trans a3,(if_pos Za).trans a4,(if_pos Za).trans a5,(if_pos Za).trans a6,(if_pos Za).trans a7,(if_pos Za).trans a8⟩
 .exact Z7
 .exact aL
 .exact ZY
 .exact gJ
theorem Kx.done{w:World}{base:Nat}{v:Value}{k:Nat}{x:Nat->Ch}{A:Nat->Option Addr}{C hb:Nat->Nat}(h:Kx w base v k x A C hb):∃ad cap g,v=.l ad k cap/\k<=cap/\Lu w ad g k x A C hb/\∀q,Md g k (λi=>(x i).ob.hn) hb q->base<=q:=by
 obtain⟨c,r,hat⟩:=h.row;rcases r.2 with⟨rfl,rfl⟩|⟨g,cap,cur,rfl,h1,_,hcap,_⟩;.exact⟨none,0,0,rfl,AD _,⟨λh0=>absurd h0 (AY _),λh0=>absurd h0 (AY _),λi hi=>absurd hi (Aj _),λi hi=>absurd hi (Aj _),⟨λi hi=>absurd hi (Aj _),λi j hi=>absurd hi (Aj _)⟩⟩,λq hq=>by
   rcases hq with⟨h0,_⟩|⟨i,hi,_⟩;.exact absurd h0 (AY _)
   .exact absurd hi (Aj _)⟩
 .refine⟨_,cap,g,rfl,hcap,⟨λ_=>rfl,λ_=>⟨c,Ov r,hat⟩,h.hold,λi hi h0=>(h.hlt i hi h0).2,⟨λi hi h0 e=>h.ne i hi h0 (by rw[e];rfl),h.inj⟩⟩,λq hq=>?_⟩;rcases hq with⟨h0,rfl⟩|⟨i,hi,h0,rfl⟩;.exact h1
  .exact(h.hlt i hi h0).1
end Go.Proofs.Ytnnjcenacidceaa
namespace Go.Proofs.Ytnnjcenacidceaa
open Go.RowKit Go.Proofs.Try
structure PS where
 m:Nat
 y:Nat->Ob
 done:Bool
def Cv (o xi:Ob)(s:PS):PS:=if s.done then(if Fs xi o=0 then s else⟨s.m+1,B8 s.y s.m xi,true⟩)else if Fs xi o<0 then⟨s.m+1,B8 s.y s.m xi,false⟩else if Fs xi o=0 then⟨s.m+1,B8 s.y s.m o,true⟩else⟨s.m+1+1,B8 (B8 s.y s.m o) (s.m+1) xi,true⟩
def E8 (x:Nat->Ob)(o:Ob)(gone:Bool):Nat->PS
 |0=>⟨0,λ_=>o,gone⟩
 |i+1=>Cv o (x i) (E8 x o gone i)
def Oo (o:Ob)(s:PS):PS:=if s.done then s else⟨s.m+1,B8 s.y s.m o,true⟩
def KM (n:Nat)(x:Nat->Ob)(o:Ob)(gone:Bool):PS:=Oo o (E8 x o gone n)
theorem RO (x:Nat->Ob)(o:Ob)(gone:Bool):∀k,(E8 x o gone k).m+(if(E8 x o gone k).done then 0 else 1)<=k+1
 |0=>by show 0+(if gone then 0 else 1)<=1;split<;>omega
 |k+1=>by have ih:=RO x o gone k;show(Cv o (x k) (E8 x o gone k)).m+(if(Cv o (x k) (E8 x o gone k)).done then 0 else 1)<=k+1+1;unfold Cv;cases hd:(E8 x o gone k).done with
  |true=>
   rw[hd]at ih;simp only[if_true]at ih⊢;split;.omega
   .simp;omega
  |false=>
   rw[hd]at ih;simp only[GP,if_false]at ih⊢;split;.simp;omega
   .split;.simp;omega
    .simp;omega
theorem AB.frP{w w':World}{lo hi:Nat}{ad:OA}{n:Nat}{s:Nat->ByteArray}{P:Nat->Prop}(h:AB w lo hi ad n s)(hf:Az P w w')(hh:hi<=w.1.size)(hp:∀q,q<hi->¬P q):AB w' lo hi ad n s:=λi hi'=>by obtain⟨b,off,e1,e2,e3,e4⟩:=h i hi';exact⟨b,off,e1,e2,e3,(hf.cell (p:=⟨b,off+i,none⟩) (Ac e3 hh) (hp b e3)).trans e4⟩
structure jJ (w:World)(base lo hi:Nat)(v:Value)(m:Nat)(y:Nat->Ob)(A:Nat->Option Addr)(C:Nat->Nat):Prop where
 row:∃c,w.ownsRow base 38 7 v m (AM (m*7) c)/\∀i,i<m->RZ c i (y i) (A i) (C i)hold:∀i,i<m->AB w lo hi (A i) (y i).hn (y i).hs
theorem jJ.grow{w w':World}{base lo hi:Nat}{v:Value}{m:Nat}{y:Nat->Ob}{A:Nat->Option Addr}{C:Nat->Nat}(h:jJ w base lo hi v m y A C)(hh:hi<=w.1.size)(hf:Below w.1.size w w'):jJ w' base lo hi v m y A C:=⟨by obtain⟨c,r,e⟩:=h.row;exact⟨c,Mi r (Aq (P:=λ_=>False) hf) (λ_ _ h=>h),e⟩,λi hi'=>(h.hold i hi').frP (Aq (P:=λ_=>False) hf) hh (λ_ _ h=>h)⟩
theorem jJ.app{w w':World}{base lo hi:Nat}{v v':Value}{m:Nat}{y:Nat->Ob}{A:Nat->Option Addr}{C:Nat->Nat}{c:Nat->Value}{o:Ob}{ad':OA}{cap':Nat}(h:jJ w base lo hi v m y A C)(hat:∀i,i<m->RZ c i (y i) (A i) (C i))(ho:w'.ownsRow base 38 7 v' (m+1) (AM (m*7) c++[.s o.kind,.s o.name,.i o.ver,.i o.born,.s o.text,.bool o.ending,.l ad' o.hn cap']))(hg:w.grownBy w' v.ownBlock)(hv:∀q,v.ownBlock=some q->base<=q)(hs:AB w lo hi ad' o.hn o.hs)(hhb:hi<=base)(hhw:hi<=w.1.size):jJ w' base lo hi v' (m+1) (B8 y m o) (B8 A m ad') (B8 C m cap'):=by
 have F:=BI hg;have np:∀q,q<hi->¬v.ownBlock=some q:=λq hq e=>by have:=hv q e;omega
 refine⟨⟨Ts c (m*7) [.s o.kind,.s o.name,.i o.ver,.i o.born,.s o.text,.bool o.ending,.l ad' o.hn cap'],?_,λi hi'=>?_⟩,λi hi'=>?_⟩
 .rw[LV]at ho;have e:m*7+([.s o.kind,.s o.name,.i o.ver,.i o.born,.s o.text,.bool o.ending,.l ad' o.hn cap']:List Value).length=(m+1)*7:=by show m*7+7=_;omega
  rw[e]at ho;exact ho
 .by_cases e:i=m
  .subst e;rw[Bt,Bt,Bt];exact⟨Pp _ _ _,Ea _ _ _ 1,Ea _ _ _ 2,Ea _ _ _ 3,Ea _ _ _ 4,Ea _ _ _ 5,Ea _ _ _ 6⟩
  .rw[BP _ _ e,BP _ _ e,BP _ _ e];exact eV
 .by_cases e:i=m;.subst e;rw[Bt,Bt];exact hs.frP F hhw np
  .rw[BP _ _ e,BP _ _ e];exact(h.hold i Za).frP F hhw np
theorem iD{P:Prop}(h:P:=by
  have BW2:=Ah (BD1.grow Za (An w1 (.cells (vO (x k) ah ch) 38)));obtain⟨cc2,hown2,hat2⟩:=BW2.row;have VI:=Ah hat2;clear hat2;go_wp2_with (at_builtin;go_must(refine wpList_append_own_at _ rfl _ _ 23 rfl (w.1.size+1) 38 i0 _ 7 96 underlying23 hi0 hz0 hz1 hz2 rfl Zb _ (m) (AM ((m)*7) cc2) rfl hown2 ⟨w1.1.size,0,none⟩ 1 1 [.s (x k).kind,.s (x k).name,.i (x k).ver,.i (x k).born,.s (x k).text,.bool (x k).ending,.l ah (x k).hn ch] rfl rfl (E5 w1 _ 38) jD Zm Za Zd ?_;intro v2 u2 hown2' hgrow2 hnil2 hwh2;clear hnil2 hwh2));have zu2:=hgrow2.size;simp only[Aw]at zu2;have BD2':=Ah (BW2.app (cap':=ch) VI hown2' hgrow2 (λq hq=>(hown2.lt q hq).1) ((ZL.out).alloc Za _) Za Zd);have B2':Below (w.1.size+1) (w.alloc (.cells #[.i c.ver,.bool c.gone,.s c.ob.kind,.s c.ob.name,.i c.ob.ver,.i c.ob.born,.s c.ob.text,.bool c.ob.ending,.l adc c.ob.hn capc] 40)) u2:=(b1.alloc Za _).trans ((BI hgrow2).below (λq hq e=>by have:=(hown2.lt q e).1;omega) Zd);clear hown2 hown2' hgrow2;go_roundw;case rel=>exact⟨k+1,_,_,Za,by go_num,by rw[STEP.out,E.out],B2',by rw[STEP.out,E.out];exact BD2'⟩
  case measure=>simp[intOf];omega):P:=h
theorem YH (n:Nat)(x:Nat->Ob)(ad:OA)(cap:Nat)(c:Ch)(adc:OA)(capc:Nat)(w:World)(lo hi:Nat)(hhi:hi<=w.1.size)(hl:(n:Int)<=1048576)(hc:B4 w lo hi ad n x)(hcs:AB w lo hi adc c.ob.hn c.ob.hs):Calls prog 85 #[.l ad n cap,.agg #[.i c.ver,.bool c.gone,.s c.ob.kind,.s c.ob.name,.i c.ob.ver,.i c.ob.born,.s c.ob.text,.bool c.ob.ending,.l adc c.ob.hn capc]] w λe w'=>∃v A C,e=.returned v/\jJ w' (w.1.size+1) lo hi v (KM n x c.ob c.gone).m (KM n x c.ob c.gone).y A C/\Below w.1.size w w':=by
 obtain⟨i0,hi0,hz0,hz1,hz2⟩:=info_parts Ms;have HC:=Ah hc;have xV:=Ah hcs;clear hc hcs;go_enter func85,ntmps85;go_wp2;have bd0:jJ ((w.alloc (.cells #[.i c.ver,.bool c.gone,.s c.ob.kind,.s c.ob.name,.i c.ob.ver,.i c.ob.born,.s c.ob.text,.bool c.ob.ending,.l adc c.ob.hn capc] 40)).alloc (.cells #[] 38)) (w.1.size+1) lo hi (.l (some ⟨w.1.size+1,0,none⟩) 0 0) 0 (λ_=>c.ob) (λ_=>none) (λ_=>0):=⟨⟨λ_=>.i 0,by simpa[AM]using GQ (base:=w.1.size+1) (e:=38) (size:=7) (w.alloc (.cells #[.i c.ver,.bool c.gone,.s c.ob.kind,.s c.ob.name,.i c.ob.ver,.i c.ob.born,.s c.ob.text,.bool c.ob.ending,.l adc c.ob.hn capc] 40)) #[] 0 Zc Cf rfl,λi hi=>absurd hi (Aj _)⟩,λi hi=>absurd hi (Aj _)⟩;go_loopw[5,6,7](λo d i wr=>∃(k:Nat)(A:Nat->Option Addr)(C:Nat->Nat),k<=n/\i=.i k/\d=.bool (E8 x c.ob c.gone k).done/\Below (w.1.size+1) (w.alloc (.cells #[.i c.ver,.bool c.gone,.s c.ob.kind,.s c.ob.name,.i c.ob.ver,.i c.ob.born,.s c.ob.text,.bool c.ob.ending,.l adc c.ob.hn capc] 40)) wr/\jJ wr (w.1.size+1) lo hi o (E8 x c.ob c.gone k).m (E8 x c.ob c.gone k).y A C)(λ_ _ i _=>n-(intOf i).toNat);case atStart=>exact⟨0,_,_,At _,rfl,rfl,by simpa using An (w.alloc (.cells #[.i c.ver,.bool c.gone,.s c.ob.kind,.s c.ob.name,.i c.ob.ver,.i c.ob.born,.s c.ob.text,.bool c.ob.ending,.l adc c.ob.hn capc] 40)) (.cells #[] 38),bd0⟩
 case round=>
  clear bd0;obtain⟨k,A,C,hk,rfl,rfl,b0,bd⟩:=hrel;have hBw:Below w.1.size w wr:=(An _ _).trans (b0.mono Za);have hsz:w.1.size+1<=wr.1.size:=by have:=b0.size;simpa using this
  have hle:=RO x c.ob c.gone k;have LE:=Ah hle;have o2:=Ar (by simpa using b0) 2;have o3:=Ar (by simpa using b0) 3;have o4:=Ar (by simpa using b0) 4;have o5:=Ar (by simpa using b0) 5;have o6:=Ar (by simpa using b0) 6;have o7:=Ar (by simpa using b0) 7;have o8:=Ar (by simpa using b0) 8;simp only[Af,Ae,Ad]at o2 o3 o4 o5 o6 o7 o8;obtain⟨S,hS⟩:∃S,E8 x c.ob c.gone k=S:=⟨_,rfl⟩;rw[hS]at bd LE⊢;have HS:=Ah hS;clear hS hle;have BD:=Ah bd;clear bd;by_cases hkn:k<n
  .obtain⟨b,off,ah,ch,rfl,hlo,hbh,hcx,hsx⟩:=HC k hkn;obtain⟨d0,d1,d2,d3,d4,d5,d6⟩:=hcx.below hBw Za;have HX:=Ah hcx;have ZC:=Ah hsx;clear hcx hsx;have x0:=Ai d0 Zk;have x1:=Ai d1 Zk;have x2:=Ai d2 Zk;have x3:=Ai d3 Zk;have x4:=Ai d4 Zk;have x5:=Ai d5 Zk;have x6:=Ai d6 Zk;have y2:=Ai o2 Zg;have y3:=Ai o3 Zg;have y4:=Ai o4 Zg;have y5:=Ai o5 Zg;have y6:=Ai o6 Zg;have y7:=Ai o7 Zg;have y8:=Ai o8 Zg;have hne:Nonempty (GW wr):=⟨⟨_,Ao _ _⟩⟩;go_wp2;refine AE Ze Ze ?_;repeat(go_big_quiet_step((go_at_call 62;go_must(exact Bf (NZ (x k) c.ob _ _ _ _ _)))))
   refine wpQuiet_nil ?_;rintro w1 ⟨u,hu⟩;have hw1:Below wr.1.size wr w1:=hu▸u.prop;clear hu u hne x0 x1 x2 x3 x4 x5 x6 y2 y3 y4 y5 y6 y7 y8;have z1:=hw1.size;have b1:=b0.trans (hw1.mono Za);have hBw1:Below w.1.size w w1:=(An _ _).trans (b1.mono Za);have BD1:=Ah (BD.grow Za hw1);have ZL:=Ah (ZC.below hBw1 hhi);have sL:=Ah (xV.below hBw1 hhi);obtain⟨e0,e1,e2,e3,e4,e5,e6⟩:=HX.below hBw1 Za;have p2:=(hw1.cell (p:=⟨w.1.size,2,none⟩) Zg).trans o2;have p3:=(hw1.cell (p:=⟨w.1.size,3,none⟩) Zg).trans o3;have p4:=(hw1.cell (p:=⟨w.1.size,4,none⟩) Zg).trans o4;have p5:=(hw1.cell (p:=⟨w.1.size,5,none⟩) Zg).trans o5;have p6:=(hw1.cell (p:=⟨w.1.size,6,none⟩) Zg).trans o6;have p7:=(hw1.cell (p:=⟨w.1.size,7,none⟩) Zg).trans o7;have p8:=(hw1.cell (p:=⟨w.1.size,8,none⟩) Zg).trans o8;have STEP:=Ah (show E8 x c.ob c.gone (k+1)=Cv c.ob (x k) S by show Cv c.ob (x k) (E8 x c.ob c.gone k)=_;rw[HS.out]);clear d0 d1 d2 d3 d4 d5 d6 o2 o3 o4 o5 o6 o7 o8 hw1 BD;obtain⟨kk,hkk⟩:∃kk,Fs (x k) c.ob=kk:=⟨_,rfl⟩;rw[hkk];have ZJ:=Ah hkk;clear hkk;obtain⟨m,y,dn⟩:=S;dsimp only at BD1 LE STEP⊢;cases dn with
   |true=>
    have hm:m<=k+1:=by have:=LE.out;simp at this;omega
    by_cases h0:kk=0
    .subst h0;have E:=Ah (show Cv c.ob (x k) ⟨m,y,true⟩=⟨m,y,true⟩by unfold Cv;simp[ZJ.out]);go_wp2;go_roundw;case rel=>exact⟨k+1,_,_,Za,by go_num,by rw[STEP.out,E.out],b1,by rw[STEP.out,E.out];exact BD1⟩
     case measure=>simp[intOf];omega
    .have E:=Ah (show Cv c.ob (x k) ⟨m,y,true⟩=⟨m+1,B8 y m (x k),true⟩by unfold Cv;simp[ZJ.out,h0]);exact iD
   |false=>
    have hm:m<=k:=by have:=LE.out;simp at this;omega
    by_cases hneg:kk<0
    .have E:=Ah (show Cv c.ob (x k) ⟨m,y,false⟩=⟨m+1,B8 y m (x k),false⟩by unfold Cv;simp[ZJ.out,hneg]);have hnz:¬kk=0:=Za;exact iD
    .by_cases h0:kk=0
     .subst h0;have E:=Ah (show Cv c.ob (x k) ⟨m,y,false⟩=⟨m+1,B8 y m c.ob,true⟩by unfold Cv;simp[ZJ.out]);have BW2:=Ah (BD1.grow Za (An w1 (.cells (vO c.ob adc capc) 38)));obtain⟨cc2,hown2,hat2⟩:=BW2.row;have VI:=Ah hat2;clear hat2;go_wp2_with (at_builtin;go_must(refine wpList_append_own_at _ rfl _ _ 23 rfl (w.1.size+1) 38 i0 _ 7 96 underlying23 hi0 hz0 hz1 hz2 rfl Zb _ (m) (AM ((m)*7) cc2) rfl hown2 ⟨w1.1.size,0,none⟩ 1 1 [.s c.ob.kind,.s c.ob.name,.i c.ob.ver,.i c.ob.born,.s c.ob.text,.bool c.ob.ending,.l adc c.ob.hn capc] rfl rfl (E5 w1 _ 38) jD Zm Za Zd ?_;intro v2 u2 hown2' hgrow2 hnil2 hwh2;clear hnil2 hwh2));have zu2:=hgrow2.size;simp only[Aw]at zu2;have BD2':=Ah (BW2.app (cap':=capc) VI hown2' hgrow2 (λq hq=>(hown2.lt q hq).1) ((sL.out).alloc Za _) Za Zd);have B2':Below (w.1.size+1) (w.alloc (.cells #[.i c.ver,.bool c.gone,.s c.ob.kind,.s c.ob.name,.i c.ob.ver,.i c.ob.born,.s c.ob.text,.bool c.ob.ending,.l adc c.ob.hn capc] 40)) u2:=(b1.alloc Za _).trans ((BI hgrow2).below (λq hq e=>by have:=(hown2.lt q e).1;omega) Zd);clear hown2 hown2' hgrow2;go_roundw;case rel=>exact⟨k+1,_,_,Za,by go_num,by rw[STEP.out,E.out],B2',by rw[STEP.out,E.out];exact BD2'⟩
      case measure=>simp[intOf];omega
     .have E:=Ah (show Cv c.ob (x k) ⟨m,y,false⟩=⟨m+1+1,B8 (B8 y m c.ob) (m+1) (x k),true⟩by unfold Cv;simp[ZJ.out,hneg,h0]);have BW2:=Ah (BD1.grow Za (An w1 (.cells (vO c.ob adc capc) 38)));obtain⟨cc2,hown2,hat2⟩:=BW2.row;have VI:=Ah hat2;clear hat2;go_upto_region 10 with(at_builtin;go_must(refine wpList_append_own_at _ rfl _ _ 23 rfl (w.1.size+1) 38 i0 _ 7 96 underlying23 hi0 hz0 hz1 hz2 rfl Zb _ (m) (AM ((m)*7) cc2) rfl hown2 ⟨w1.1.size,0,none⟩ 1 1 [.s c.ob.kind,.s c.ob.name,.i c.ob.ver,.i c.ob.born,.s c.ob.text,.bool c.ob.ending,.l adc c.ob.hn capc] rfl rfl (E5 w1 _ 38) jD Zm Za Zd ?_;intro v2 u2 hown2' hgrow2 hnil2 hwh2;clear hnil2 hwh2));have zu2:=hgrow2.size;simp only[Aw]at zu2;have BD2':=Ah (BW2.app (cap':=capc) VI hown2' hgrow2 (λq hq=>(hown2.lt q hq).1) ((sL.out).alloc Za _) Za Zd);have B2':Below (w.1.size+1) (w.alloc (.cells #[.i c.ver,.bool c.gone,.s c.ob.kind,.s c.ob.name,.i c.ob.ver,.i c.ob.born,.s c.ob.text,.bool c.ob.ending,.l adc c.ob.hn capc] 40)) u2:=(b1.alloc Za _).trans ((BI hgrow2).below (λq hq e=>by have:=(hown2.lt q e).1;omega) Zd);clear hown2 hown2' hgrow2;clear e0 e1 e2 e3 e4 e5 e6 p2 p3 p4 p5 p6 p7 p8;have hBw2:Below w.1.size w u2:=(An _ _).trans (B2'.mono Za);obtain⟨e0,e1,e2,e3,e4,e5,e6⟩:=HX.below hBw2 Za;have nU:=Ah (ZC.below hBw2 hhi);have BW3:=Ah (BD2'.grow Za (An u2 (.cells (vO (x k) ah ch) 38)));obtain⟨cc3,hown3,hat3⟩:=BW3.row;have wE:=Ah hat3;clear hat3;go_wp2_with (at_builtin;go_must(refine wpList_append_own_at _ rfl _ _ 23 rfl (w.1.size+1) 38 i0 _ 7 96 underlying23 hi0 hz0 hz1 hz2 rfl Zb _ (m+1) (AM ((m+1)*7) cc3) rfl hown3 ⟨u2.1.size,0,none⟩ 1 1 [.s (x k).kind,.s (x k).name,.i (x k).ver,.i (x k).born,.s (x k).text,.bool (x k).ending,.l ah (x k).hn ch] rfl rfl (E5 u2 _ 38) jD Zm Za Zd ?_;intro v3 u3 hown3' hgrow3 hnil3 hwh3;clear hnil3 hwh3));have zu3:=hgrow3.size;simp only[Aw]at zu3;have BD3':=Ah (BW3.app (cap':=ch) wE hown3' hgrow3 (λq hq=>(hown3.lt q hq).1) ((nU.out).alloc Za _) Za Zd);have B3':Below (w.1.size+1) (w.alloc (.cells #[.i c.ver,.bool c.gone,.s c.ob.kind,.s c.ob.name,.i c.ob.ver,.i c.ob.born,.s c.ob.text,.bool c.ob.ending,.l adc c.ob.hn capc] 40)) u3:=(B2'.alloc Za _).trans ((BI hgrow3).below (λq hq e=>by have:=(hown3.lt q e).1;omega) Zd);clear hown3 hown3' hgrow3;go_roundw;case rel=>exact⟨k+1,_,_,Za,by go_num,by rw[STEP.out,E.out],B3',by rw[STEP.out,E.out];exact BD3'⟩
      case measure=>simp[intOf];omega
  .have hke:k=n:=Za;subst hke;obtain⟨m,y,dn⟩:=S;dsimp only at BD LE⊢;have hBw:Below w.1.size w wr:=(An _ _).trans (b0.mono Za);have HCSr:=Ah (xV.below hBw hhi);have ZO:=Ah (show KM k x c.ob c.gone=Oo c.ob ⟨m,y,dn⟩by unfold KM;rw[HS.out]);cases dn with
   |true=>have E:=Ah (show Oo c.ob ⟨m,y,true⟩=⟨m,y,true⟩from rfl);go_wp2;go_ret;exact⟨_,rfl,⟨A,C,by rw[ZO.out,E.out];exact BD⟩,hBw⟩
   |false=>
    have hm:m<=k:=by have:=LE.out;simp at this;omega
    have E:=Ah (show Oo c.ob ⟨m,y,false⟩=⟨m+1,B8 y m c.ob,true⟩from rfl);have BW2:=Ah (BD.grow Za (An wr (.cells (vO c.ob adc capc) 38)));obtain⟨cc2,hown2,hat2⟩:=BW2.row;have VI:=Ah hat2;clear hat2;go_wp2_with (at_builtin;go_must(refine wpList_append_own_at _ rfl _ _ 23 rfl (w.1.size+1) 38 i0 _ 7 96 underlying23 hi0 hz0 hz1 hz2 rfl Zb _ (m) (AM ((m)*7) cc2) rfl hown2 ⟨wr.1.size,0,none⟩ 1 1 [.s c.ob.kind,.s c.ob.name,.i c.ob.ver,.i c.ob.born,.s c.ob.text,.bool c.ob.ending,.l adc c.ob.hn capc] rfl rfl (E5 wr _ 38) jD Zm Za Zd ?_;intro v2 u2 hown2' hgrow2 hnil2 hwh2;clear hnil2 hwh2));have zu2:=hgrow2.size;simp only[Aw]at zu2;have BD2':=Ah (BW2.app (cap':=capc) VI hown2' hgrow2 (λq hq=>(hown2.lt q hq).1) ((HCSr.out).alloc Za _) Za Zd);have B2':Below (w.1.size+1) (w.alloc (.cells #[.i c.ver,.bool c.gone,.s c.ob.kind,.s c.ob.name,.i c.ob.ver,.i c.ob.born,.s c.ob.text,.bool c.ob.ending,.l adc c.ob.hn capc] 40)) u2:=(b0.alloc Za _).trans ((BI hgrow2).below (λq hq e=>by have:=(hown2.lt q e).1;omega) Zd);clear hown2 hown2' hgrow2;go_ret;exact⟨_,_,_,rfl,by rw[ZO.out,E.out];exact BD2',(An _ _).trans (B2'.mono Za)⟩
end Go.Proofs.Ytnnjcenacidceaa
namespace Go.Proofs.Ytnnjcenacidceaa
open Go.RowKit Go.Proofs.Try
theorem SK{w:World}{base e z n:Nat}{v:Value}{c:Nat->Value}(h:w.ownsRow base e z v n (AM (n*z) c))(hn:0<n):∃g cap,v=.l (some ⟨g,0,none⟩) n cap/\base<=g/\AN w g (n*z) c:=by
 rcases h.2 with⟨rfl,h0⟩|⟨g,cap,cur,rfl,h1,_⟩;.omega
 .exact⟨g,cap,rfl,h1,Ov h⟩
theorem YC{w:World}{g:Nat}{c:Nat->Value}{v0 v1 v2 v3 v4:Value}(h:AN w g 5 c):AN (((((w.setCell ⟨g,0,none⟩ v0).setCell ⟨g,1,none⟩ v1).setCell ⟨g,2,none⟩ v2).setCell ⟨g,3,none⟩ v3).setCell ⟨g,4,none⟩ v4) g 5 (AR [v0,v1,v2,v3,v4]):=by have r:=((((h.set (o:=0) Za v0).set (o:=1) Za v1).set (o:=2) Za v2).set (o:=3) Za v3).set (o:=4) Za v4;refine⟨r.lt,r.free,λj hj=>(r.cell j hj).trans (congrArg some ?_)⟩;rcases(show j=0\/j=1\/j=2\/j=3\/j=4 by omega)with rfl|rfl|rfl|rfl|rfl<;>rfl
end Go.Proofs.Ytnnjcenacidceaa
namespace Go.Proofs.Ytnnjcenacidceaa
open Go.RowKit Go.Proofs.Try
def Qa (W:World)(B:Nat)(c:Array Value):Prop:=∀i,W.cell? ⟨B,i,none⟩=c[i]?
theorem Qa.below{W W':World}{B n:Nat}{c:Array Value}(h:Qa W B c)(hb:Below n W W')(hB:B<n):Qa W' B c:=λi=>(hb.cell (p:=⟨B,i,none⟩) hB).trans (h i)
def Xk (x:Bk)(a1 a2 a3:OA)(c1 c2 c3:Nat):Array Value:=(vB x a1 a2 a3 c1 c2 c3)
end Go.Proofs.Ytnnjcenacidceaa
namespace Go.Proofs.Ytnnjcenacidceaa
open Go.RowKit Go.Maps Go.Proofs.Try
structure EO where
 ob:Ob
 A:Option Addr
 C:Nat
 hb:Nat
instance:Inhabited EO:=⟨⟨⟨ByteArray.empty,ByteArray.empty,0,0,ByteArray.empty,false,0,λ_=>ByteArray.empty⟩,none,0,0⟩⟩
def NH (m:Nat)(y:Nat->Ob):List Ob:=(List.range m).map y
theorem QQ (m:Nat)(y:Nat->Ob):NH (m+1) y=NH m y++[y m]:=by simp[NH,KB]
theorem T4 (m:Nat)(y:Nat->Ob):(NH m y).length=m:=by simp[NH]
theorem Na (m:Nat)(y:Nat->Ob)(z:Ob):NH (m+1) (B8 y m z)=NH m y++[z]:=by
 rw[QQ];have h1:NH m (B8 y m z)=NH m y:=by unfold NH;apply List.map_congr_left;intro i hi;have:=Bd.1 hi;exact if_neg Za
 rw[h1];simp[B8]
theorem PI (x z:Ob):Fs x z<0↔Fd x z=true:=by have h:=UE x z;cases hb:Fd x z with
 |true=>rw[hb]at h;simp at h;simp;omega
 |false=>rw[hb]at h;simp at h;simp;omega
theorem NQ (x z:Ob):Fs x z=0↔(x.kind.toList=z.kind.toList/\x.name.toList=z.name.toList):=by
 unfold Fs;constructor
 .intro h;split at h;.exact absurd h Zb
  .split at h
   .rename_i h2;split at h;.exact absurd h Zb
    .split at h;.rename_i h3;exact⟨h2,h3⟩
     .exact absurd h Zb
   .exact absurd h Zb
 .rintro⟨h1,h2⟩;rw[if_neg (by rw[LL h1];decide),if_pos h1,if_neg (by rw[LL h2];decide),if_pos h2]
def KY (o y:Ob):Bool:=decide (¬Fs y o=0)
def MP (o:Ob):List Ob->List Ob
 |[]=>[o]
 |y::r=>if Fd y o then y::MP o r else o::(y::r).filter (KY o)
def QT (o:Ob)(gone:Bool)(l:List Ob):List Ob:=if gone then l.filter (KY o)else MP o l
theorem P5{x:Nat->Ob}{o:Ob}:∀n,NH (E8 x o true n).m (E8 x o true n).y=(NH n x).filter (KY o)/\(E8 x o true n).done=true
 |0=>⟨rfl,rfl⟩
 |n+1=>by
  obtain⟨h1,h2⟩:=P5 (x:=x) (o:=o) n;rw[QQ,DE];show NH (Cv o (x n) (E8 x o true n)).m (Cv o (x n) (E8 x o true n)).y=_/\(Cv o (x n) (E8 x o true n)).done=true;unfold Cv;rw[h2,if_pos rfl];by_cases hk:Fs (x n) o=0;.rw[if_pos hk];exact⟨by rw[h1];simp[KY,hk],h2⟩
  .rw[if_neg hk];exact⟨by rw[Na,h1];simp[KY,hk],rfl⟩
def ML (o:Ob):List Ob->List Ob×Bool
 |[]=>([],false)
 |y::r=>if Fd y o then(y::(ML o r).1,(ML o r).2)else(o::(y::r).filter (KY o),true)
theorem Ta (o z:Ob):∀l,ML o (l++[z])=if(ML o l).2 then((ML o l).1++[z].filter (KY o),true)else if Fd z o then((ML o l).1++[z],false)else((ML o l).1++(o::[z].filter (KY o)),true)
 |[]=>by simp only[Eg,ML];cases Fd z o<;>simp
 |y::r=>by
  have ih:=Ta o z r;by_cases hb:Fd y o=true
  .simp only[ED,ML,if_pos hb,ih];by_cases h1:(ML o r).2=true;.simp only[if_pos h1]
   .simp only[if_neg h1];by_cases h2:Fd z o=true;.simp only[if_pos h2]
    .simp only[if_neg h2]
  .simp only[ED,ML,if_neg hb,if_true];rw[<-ED,DE]
theorem dZ (o:Ob):∀l,MP o l=if(ML o l).2 then(ML o l).1 else(ML o l).1++[o]
 |[]=>rfl
 |y::r=>by
  have ih:=dZ o r;by_cases hb:Fd y o=true
  .simp only[MP,ML,if_pos hb,ih];by_cases h1:(ML o r).2=true;.simp only[if_pos h1]
   .simp only[if_neg h1,ED]
  .simp only[MP,ML,if_neg hb,if_true]
theorem P7{x:Nat->Ob}{o:Ob}:∀n,NH (E8 x o false n).m (E8 x o false n).y=(ML o (NH n x)).1/\(E8 x o false n).done=(ML o (NH n x)).2
 |0=>⟨rfl,rfl⟩
 |n+1=>by obtain⟨h1,h2⟩:=P7 (x:=x) (o:=o) n;rw[QQ,Ta];show NH (Cv o (x n) (E8 x o false n)).m (Cv o (x n) (E8 x o false n)).y=_/\(Cv o (x n) (E8 x o false n)).done=_;unfold Cv;rw[h2];have kn:=PI (x n) o;cases hd:(ML o (NH n x)).2 with
  |true=>
   simp only[if_true];by_cases hk:Fs (x n) o=0;.rw[if_pos hk];exact⟨by rw[h1];simp[KY,hk],by rw[h2,hd]⟩
   .rw[if_neg hk];exact⟨by rw[Na,h1];simp[KY,hk],rfl⟩
  |false=>
   simp only[GP,if_false];by_cases hn:Fs (x n) o<0;.rw[if_pos hn,if_pos (kn.1 hn)];exact⟨by rw[Na,h1],rfl⟩
   .have hb:¬Fd (x n) o=true:=λh=>hn (kn.2 h);rw[if_neg hn,if_neg hb];by_cases hk:Fs (x n) o=0;.rw[if_pos hk];exact⟨by rw[Na,h1];simp[KY,hk],rfl⟩
    .rw[if_neg hk];refine⟨?_,rfl⟩;show NH ((E8 x o false n).m+1+1) _=_;rw[Na,Na,h1];simp[KY,hk]
theorem Tz (n:Nat)(x:Nat->Ob)(o:Ob)(gone:Bool):NH (KM n x o gone).m (KM n x o gone).y=QT o gone (NH n x):=by unfold KM Oo QT;cases gone with
 |true=>obtain⟨h1,h2⟩:=P5 (x:=x) (o:=o) n;rw[h2];simpa using h1
 |false=>obtain⟨h1,h2⟩:=P7 (x:=x) (o:=o) n;simp only[GP,if_false];rw[h2,dZ];cases hd:(ML o (NH n x)).2 with
  |true=>simpa using h1
  |false=>simp only[GP,if_false];rw[Na,h1]
end Go.Proofs.Ytnnjcenacidceaa
namespace Go.Proofs.Ytnnjcenacidceaa
open Go.RowKit Go.Proofs.Try
structure Wr where
 op:Int
 kind:ByteArray
 name:ByteArray
 seen:Int
 text:ByteArray
 hold:ByteArray
abbrev vW (x:Wr):Array Value:=#[.i x.op,.s x.kind,.s x.name,.i x.seen,.s x.text,.s x.hold]
abbrev cx (x:Wr):List Value:=[.i x.op,.s x.kind,.s x.name,.i x.seen,.s x.text,.s x.hold]
structure RU (w:Wr):Prop where
 k:(w.kind.size:Int)<=140737488355328
 n:(w.name.size:Int)<=140737488355328
 t:(w.text.size:Int)<=140737488355328
 h:(w.hold.size:Int)<=140737488355328
def PE (s:ByteArray):Bool:=decide (s=⟨#[]⟩)
def Lz (w:Wr):Bool:=if w.op=1 then decide (w.seen=0)else if w.op=2 then PE w.hold else if w.op=3 then PE w.text&&PE w.hold else if w.op=4 then PE w.text&&!PE w.hold else if w.op=5 then PE w.text&&!PE w.hold else false
def Ky (w:Wr):Bool:=Bv w.kind&&(Bv w.name&&(decide (0<=w.seen)&&(decide (w.text.size<=300)&&(PE w.hold||Bv w.hold))))
def Li (w:Wr):Bool:=Ky w&&Lz w
theorem Ld{a b:ByteArray}(h:a.toList=b.toList):a=b:=by cases a with|mk a=>cases b with|mk b=>
 have h2:a.toList=b.toList:=by simpa[ByteArray.toList_eq]using h
 exact congrArg ByteArray.mk (Array.ext' h2)
theorem Nk{s:ByteArray}(h:¬s=⟨#[]⟩):(s.toList==(⟨#[]⟩:ByteArray).toList)=false:=by cases hb:(s.toList==(⟨#[]⟩:ByteArray).toList)with
 |false=>rfl
 |true=>exact absurd (Ld Zq) h
theorem BY{s:ByteArray}(h:¬s=⟨#[]⟩):¬s.toList=[]:=λe=>h (Ld (e.trans (by simp[ByteArray.toList_eq])))
end Go.Proofs.Ytnnjcenacidceaa
namespace Go.Proofs.Ytnnjcenacidceaa
open Go.RowKit Go.Proofs.Try
def M4 (n:Nat)(s:Nat->ByteArray)(a:ByteArray):Bool:=!Bc (λi=>!decide (s i=a)) n
theorem Xn{n:Nat}{s:Nat->ByteArray}{a:ByteArray}(h:∀i,i<n->¬s i=a):M4 n s a=false:=by unfold M4;rw[AP.2 (λi hi=>by simp[h i hi])];rfl
theorem RT{n:Nat}{s:Nat->ByteArray}{a:ByteArray}{k:Nat}(hk:k<n)(h:s k=a):M4 n s a=true:=by unfold M4;rw[AX (p:=λi=>!decide (s i=a)) hk (by simp[h])];rfl
theorem bH{a b:ByteArray}(h:¬a=b):(a.toList==b.toList)=false:=by cases hb:(a.toList==b.toList)with
 |false=>rfl
 |true=>exact absurd (Ld Zq) h
theorem MX (n:Nat)(s:Nat->ByteArray)(ad:OA)(cap:Nat)(a:ByteArray)(w:World)(lo hi:Nat)(hl:(n:Int)<=140737488355328)(hc:AB w lo hi ad n s):Calls prog 95 #[.l ad n cap,.s a] w λe w'=>e=.returned (.bool (M4 n s a))/\w'=w:=by
 go_enter func95,ntmps95;go_wp2;go_loopw[5](λi wr=>∃k:Nat,k<=n/\i=.i k/\wr=w/\∀j,j<k->¬s j=a)(λi _=>n-(intOf i).toNat);case atStart=>exact⟨0,At _,rfl,rfl,λj hj=>absurd hj (Aj _)⟩
 case round=>
  obtain⟨k,hk,rfl,rfl,hall⟩:=hrel;have HA:=Ah hall;clear hall;by_cases hkn:k<n
  .obtain⟨b,off,rfl,hlo,hbh,hcx⟩:=hc k hkn;clear hc;by_cases he:s k=a
   .subst he;have HE:=Ah (RT (a:=s k) hkn rfl);go_wp2;go_ret;exact⟨Ay HE.symm,rfl⟩
   .have hb:=bH he;have HN:=Ah he;clear he;go_wp2;go_roundw;case rel=>exact⟨k+1,Za,by go_num,by first|trivial|rfl,λj hj=>(by
     rcases Au j k with h3|h3;.exact HA j h3
     .have:j=k:=Za;subst this;exact HN)⟩
    case measure=>simp[intOf];omega
  .have HE:=Ah (Xn (n:=n) (s:=s) (a:=a) (λi hi=>HA.out i Za));clear hc;go_wp2;go_ret;exact⟨Ay HE.symm,rfl⟩
end Go.Proofs.Ytnnjcenacidceaa
namespace Go.Proofs.Ytnnjcenacidceaa
open Go.RowKit Go.Proofs.Try
theorem lG{a b:ByteArray}(h:¬a=b):(a.toList==b.toList)=false:=by cases hb:(a.toList==b.toList)with
 |false=>rfl
 |true=>exact absurd (Ld Zq) h
end Go.Proofs.Ytnnjcenacidceaa
namespace Go.Proofs.Ytnnjcenacidceaa
open Go.RowKit Go.Proofs.Try
theorem NL:∀{a b c:List UInt8},Op.bytesLess a b=true->Op.bytesLess b c=true->Op.bytesLess a c=true
 |[],_::_,[],_,h=>by simp[Op.bytesLess]at h
 |[],[],_,h,_=>by simp[Op.bytesLess]at h
 |[],_::_,_::_,_,_=>by simp[Op.bytesLess]
 |_::_,[],_,h,_=>by simp[Op.bytesLess]at h
 |_::_,_::_,[],_,h=>by simp[Op.bytesLess]at h
 |p::a,q::b,r::c,h1,h2=>by
  simp only[Op.bytesLess,L9,Al,decide_eq_true_eq,beq_iff_eq]at h1 h2⊢;rcases h1 with h1|⟨h1,h1'⟩
  .rcases h2 with h2|⟨h2,_⟩;.exact AA (UInt8.lt_trans h1 h2)
   .exact AA (h2▸h1)
  .rcases h2 with h2|⟨h2,h2'⟩;.exact AA (h1▸h2)
   .exact AC ⟨h1.trans h2,NL h1' h2'⟩
theorem M7{a b c:ByteArray}(h1:KW a b=true)(h2:KW b c=true):KW a c=true:=NL h1 h2
end Go.Proofs.Ytnnjcenacidceaa
