import Derived.Test.YtnnjcenacidceaaPk24
import Derived.Test.YtnnjcenacidceaaPk26
set_option maxRecDepth 100000
namespace Go.Proofs.Ytnnjcenacidceaa
open Go.RowKit Go.Proofs.Try
/-! a write keeps what a write wants -/
theorem UQ{y o:Ob}(h:Fd y o=false)(hk:¬(y.kind.toList=o.kind.toList/\y.name.toList=o.name.toList)):Fd o y=true:=by
 unfold Fd at h⊢;by_cases e:y.kind.toList=o.kind.toList;.rw[if_pos e]at h;rw[if_pos e.symm];exact QB h (λq=>hk ⟨e,by rw[q]⟩)
 .rw[if_neg e]at h;rw[if_neg (λq=>e q.symm)];exact QB h (λq=>e (by rw[q]))
theorem iA{y o z:Ob}(h1:y.kind.toList=o.kind.toList)(h2:y.name.toList=o.name.toList)(h:Fd y z=true):Fd o z=true:=by unfold Fd KW at h⊢;rw[<-h1,<-h2];exact h
def pU (l:List Ob):Prop:=l.Pairwise λa b=>Fd a b=true
theorem TI{n:Nat}{x:Nat->Ob}:Vm n x↔pU (NH n x):=by
 unfold pU NH;rw[List.pairwise_iff_getElem];constructor;.intro h i j hi hj hij;simp only[Lj,MS]at hi hj;simpa using h i j hij hj
 .intro h i j hij hj;have:=h i j Zd Zd hij;simpa using this
theorem Uv (o:Ob):∀(l:List Ob)(z:Ob),z∈MP o l->z=o\/z∈l
 |[],z,h=>AA (by simpa[MP]using h)
 |y::r,z,h=>by
  unfold MP at h;split at h
  .rcases Eb.1 h with rfl|h;.exact AC (Mw)
   .rcases Uv o r z h with e|e;.exact AA e
    .exact AC (LG _ e)
  .rcases Eb.1 h with rfl|h;.exact AA rfl
   .exact AC (Dv.1 h).1
theorem Xc (o:Ob):∀l:List Ob,pU l->pU (MP o l)
 |[],_=>by simp[pU,MP]
 |y::r,h=>by
  have hr:=List.pairwise_cons.1 h;unfold MP;split
  .rename_i hy;refine List.pairwise_cons.2 ⟨λz hz=>?_,Xc o r hr.2⟩;rcases Uv o r z hz with rfl|e;.exact hy
   .exact hr.1 z e
  .rename_i hy;have hy':Fd y o=false:=by simpa using hy
   refine List.pairwise_cons.2 ⟨λz hz=>?_,List.Pairwise.filter _ h⟩;obtain⟨hz1,hz2⟩:=Dv.1 hz;have hzk:¬(z.kind.toList=o.kind.toList/\z.name.toList=o.name.toList):=λe=>by have:Fs z o=0:=(NQ _ _).2 e;unfold KY at hz2;simp[this]at hz2
   rcases Eb.1 hz1 with rfl|e;.exact UQ hy' hzk
   .have h1:=hr.1 z e;by_cases hk:y.kind.toList=o.kind.toList/\y.name.toList=o.name.toList;.exact iA hk.1 hk.2 h1
    .exact Ra (UQ hy' hk) h1
theorem Xh{o:Ob}{g:Bool}{l:List Ob}(h:pU l):pU (QT o g l):=by
 unfold QT;split;.exact List.Pairwise.filter _ h
 .exact Xc o l h
theorem Uu (o:Ob):∀l:List Ob,(∃y,y∈l/\Fs y o=0)->(MP o l).length<=l.length
 |[],h=>by obtain⟨y,hy,_⟩:=h;cases hy
 |y::r,h=>by
  unfold MP;split
  .rename_i hy;have:∃z,z∈r/\Fs z o=0:=by
    obtain⟨z,hz,hk⟩:=h;rcases Eb.1 hz with rfl|e;.have e:=(NQ _ _).1 hk;rw[fE e.1 e.2]at hy;cases hy
    .exact⟨z,e,hk⟩
   have:=Uu o r this;simp only[KZ];omega
  .have:((y::r).filter (KY o)).length<(y::r).length:=by rw[List.length_filter_lt_length_iff_exists];obtain⟨z,hz,hk⟩:=h;exact⟨z,hz,by simp[KY,hk]⟩
   simp only[KZ]at this⊢;omega
theorem qD{n:Nat}{s:Nat->ByteArray}{a:ByteArray}(h:MC n s)(hn:M4 n s a=false):MC (n+1) (Qt s (K1 s a n) a):=by
 obtain⟨g1,g2,g3⟩:=MK s a n;have hne:∀i,i<n->¬s i=a:=λi hi e=>by rw[RT hi e]at hn;cases hn
 intro i j hij hj;unfold Qt;rcases Lr i (K1 s a n)with h1|h1|h1
 .rw[if_pos h1];rcases Lr j (K1 s a n)with h2|h2|h2;.rw[if_pos h2];exact h i j hij Za
  .rw[if_neg Za,if_pos h2];exact g2 i h1
  .rw[if_neg Za,if_neg Za];exact h i (j-1) Za Za
 .rw[if_neg Za,if_pos h1,if_neg Za,if_neg Za];have hk:K1 s a n<n:=Za;have h3:=QB (g3 hk) (hne _ hk);rcases Au (K1 s a n) (j-1)with h4|h4;.exact M7 h3 (h _ _ h4 Za)
  .rw[show j-1=K1 s a n by omega];exact h3
 .rw[if_neg Za,if_neg Za,if_neg Za,if_neg Za];exact h (i-1) (j-1) Za Za
theorem pW{n:Nat}{s:Nat->ByteArray}{k:Nat}(h:MC n s):MC (n-1) (Nc s k):=by
 intro i j hij hj;unfold Nc;by_cases h1:i<k
 .rw[if_pos h1];by_cases h2:j<k;.rw[if_pos h2];exact h i j hij Za
  .rw[if_neg h2];exact h i (j+1) Za Za
 .rw[if_neg h1,if_neg Za];exact h (i+1) (j+1) Za Za
theorem M6{B:Bk}{v:Wr}(hc:BJ B v=0):D9 B v=0/\B.now<1000000:=by
 unfold BJ at hc;split at hc
 .rename_i h;refine⟨h,?_⟩;split at hc;.cases hc
  .omega
 .rename_i h;exact absurd hc h
theorem U6{B:Bk}{v:Wr}(hok:Nv B v)(hc:BJ B v=0):(Cr B v).hn<=5/\MC (Cr B v).hn (Cr B v).hs:=by
 obtain⟨h1,h2,_⟩:=Wu hok;have h0:=(M6 hc).1;unfold D9 at h0;split at h0;.cases h0
 split at h0;.cases h0
 split at h0;.cases h0
 unfold Cr MY;by_cases e1:v.op=1;.rw[if_pos e1];refine⟨by dsimp only;split<;>omega,λi j h3 h4=>?_⟩;dsimp only at h4;split at h4<;>omega
 .rw[if_neg e1];rw[if_neg e1]at h0;by_cases e2:v.op=2;.rw[if_pos e2];exact⟨h1,h2⟩
  .rw[if_neg e2];by_cases e3:v.op=3;.rw[if_pos e3];exact⟨h1,h2⟩
   .rw[if_neg e3];by_cases e4:v.op=4
    .rw[if_pos e4];rw[if_pos e4]at h0;split at h0;.cases h0
     .rename_i hh;split at h0;.cases h0
      .refine⟨by dsimp only;omega,qD h2 (by simpa using hh)⟩
    .rw[if_neg e4];exact⟨by dsimp only;omega,pW h2⟩
theorem NR (B:Bk)(v:Wr):NH (LX B v).on (LX B v).os=QT (Cr B v) (CX B v) (NH B.on B.os):=Tz _ _ _ _
theorem cQ{B:Bk}{v:Wr}(hok:Nv B v)(hc:BJ B v=0):(LX B v).on<=100:=by
 have hl:(LX B v).on=(QT (Cr B v) (CX B v) (NH B.on B.os)).length:=by rw[<-NR,T4]
 have h100:=hok.on;cases hf:Ce B.os v.kind v.name B.on with
 |true=>
  rw[hl];unfold QT;split;.have:=GY (KY (Cr B v)) (NH B.on B.os);rw[T4]at this;omega
  .obtain⟨k1,k2⟩:=kO (Vo hc);have:∃y,y∈NH B.on B.os/\Fs y (Cr B v)=0:=by unfold Ce at hf;cases hx:Nq B.os v.kind v.name B.on with
    |none=>rw[hx]at hf;cases hf
    |some i=>obtain⟨q1,q2,q3⟩:=Oh hx;refine⟨B.os i,by unfold NH;exact MR.2 ⟨i,by simpa using q1,rfl⟩,(NQ _ _).2 ?_⟩;rw[k1,k2,q2,q3];exact⟨rfl,rfl⟩
   have:=Uu (Cr B v) _ this;rw[T4]at this;omega
 |false=>
  have h1:v.op=1:=by
   rcases Vo hc with h|h;.rw[h]at hf;cases hf
   .exact h
  have h0:=(M6 hc).1;unfold D9 at h0;split at h0;.cases h0
  split at h0;.cases h0
  split at h0;.cases h0
  split at h0;.cases h0
  .have:=Tf B.on B.os (Cr B v) (CX B v);have e:(LX B v).on=(KM B.on B.os (Cr B v) (CX B v)).m:=rfl;omega
theorem iX{B:Bk}{v v':Wr}(hok:Nv B v)(hc:BJ B v=0)(hw:Li v'=true)(wf:RU v'):Nv (LX B v) v':=by
 have h0:=hok.now0;have h1:=(M6 hc).2;refine⟨(Tu hok).1,?_,?_,cQ hok hc,?_,?_,λi _=>?_,hw,wf⟩;.show 0<=B.now+1;omega
 .show B.now+1<=1000000;omega
 .show B.hn-Mk B+1<=200;have:=hok.hn;unfold Mk;split<;>omega
 .rw[TI,NR];exact Xh (TI.1 hok.asc)
 .exact Ry (P:=λo=>o.hn<=5/\MC o.hn o.hs) (U6 hok hc) hok.hold i
def DD (B:Bk)(x:Nat->Wr):Nat->Bk
 |0=>B
 |k+1=>LX (DD B x k) (x k)
def ON (p:Nat->Bool):Nat->Nat
 |0=>0
 |n+1=>if ON p n<n then ON p n else if p n then n+1 else n
theorem QE (p:Nat->Bool):∀n,ON p n<=n/\(∀j,j<ON p n->p j=true)/\(ON p n<n->p (ON p n)=false)
 |0=>⟨AD _,λj hj=>absurd hj (Aj _),λh=>absurd h (Aj _)⟩
 |n+1=>by
  obtain⟨h1,h2,h3⟩:=QE p n;unfold ON;split;.rename_i h;exact⟨Za,h2,λ_=>h3 h⟩
  .rename_i h;have e:ON p n=n:=Za;rw[e]at h2;split
   .rename_i hp;refine⟨AD _,λj hj=>?_,λq=>absurd q (AY _)⟩;rcases Au j n with q|q;.exact h2 j q
    .obtain rfl:j=n:=Za;exact hp
   .rename_i hp;exact⟨Za,h2,λ_=>by simpa using hp⟩
theorem W5{p:Nat->Bool}{n k:Nat}(hk:k<n)(h:∀j,j<k->p j=true)(hp:p k=false):ON p n=k:=by
 obtain⟨h1,h2,h3⟩:=QE p n;rcases Lr (ON p n) k with q|q|q;.have:=h3 Za;rw[h _ q]at this;cases this
 .exact q
 .have:=h2 k q;rw[hp]at this;cases this
theorem QV{p:Nat->Bool}{n:Nat}(h:∀j,j<n->p j=true):ON p n=n:=by
 obtain⟨h1,h2,h3⟩:=QE p n;rcases Au (ON p n) n with q|q;.have:=h3 q;rw[h _ q]at this;cases this
 .omega
def Wk (x:Wt):Bool:=Bv x.kind&&(Bv x.name&&decide (0<=x.ver))
def Qk (x:Bu):Bool:=decide (x.wn<=10)&&(decide (x.rn<=10)&&(Bc (λi=>Wk (x.ws i)) x.wn&&Bc (λi=>Li (x.rs i)) x.rn))
def TJ (B:Bk)(x:Wt):Bool:=decide ((BN B.os x.kind x.name B.on).ver=x.ver)
def TT (B:Bk)(x:Bu)(k:Nat):Bool:=decide (BJ (DD B x.rs k) (x.rs k)=0)
def bP (B:Bk)(x:Bu):Nat:=ON (λi=>TJ B (x.ws i)) x.wn
def VA (B:Bk)(x:Bu):Nat:=ON (TT B x) x.rn
def Ct (B:Bk)(x:Bu):Int:=if bP B x<x.wn then 9 else if VA B x<x.rn then BJ (DD B x.rs (VA B x)) (x.rs (VA B x))else 0
def BG (B:Bk)(x:Bu):Bk:=if bP B x<x.wn\/VA B x<x.rn then B else DD B x.rs x.rn
def CM (B:Bk)(x:Bu):Int:=if bP B x<x.wn\/VA B x<x.rn then 0 else(DD B x.rs x.rn).now
def Vp (B:Bk)(x:Bu):Nat:=if bP B x<x.wn then bP B x else if VA B x<x.rn then VA B x else 0
structure Vl (x:Bu):Prop where
 wn:x.wn<=10
 rn:x.rn<=10
 ws:∀i,i<x.wn->Wk (x.ws i)=true
 rs:∀i,i<x.rn->Li (x.rs i)=true
theorem MH{x:Bu}(h:Qk x=true):Vl x:=by unfold Qk at h;simp only[Al,decide_eq_true_eq,AP]at h;exact⟨h.1,h.2.1,h.2.2.1,h.2.2.2⟩
theorem Wa{B:Bk}{x:Bu}(hf:BL B)(hv:Bc (LU B) 7=true)(hu:Oe x)(hb:Vl x):∀k,k<x.rn->(∀j,j<k->TT B x j=true)->Nv (DD B x.rs k) (x.rs k)
 |0,h0,_=>VU hf hv (hb.rs 0 h0) (hu.rs 0 h0)
 |k+1,h0,h=>iX (Wa hf hv hu hb k Za (λj hj=>h j Za)) (of_decide_eq_true (h k Za)) (hb.rs _ h0) (hu.rs _ h0)
end Go.Proofs.Ytnnjcenacidceaa
