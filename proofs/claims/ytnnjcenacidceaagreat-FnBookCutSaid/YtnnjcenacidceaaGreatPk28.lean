import Derived.Test.YtnnjcenacidceaaGreatPk24
import Derived.Test.YtnnjcenacidceaaGreatPk26
set_option maxRecDepth 100000
namespace Go.Proofs.YtnnjcenacidceaaGreat
open Go.RowKit Go.Proofs.Tryz
/-! a write keeps what a write wants -/
theorem UB{y o:Ob}(h:Fi y o=false)(hk:¬(y.kind.toList=o.kind.toList/\y.name.toList=o.name.toList)):Fi o y=true:=by
 unfold Fi at h⊢;by_cases e:y.kind.toList=o.kind.toList;.rw[if_pos e]at h;rw[if_pos e.symm];exact QX h (λq=>hk ⟨e,by rw[q]⟩)
 .rw[if_neg e]at h;rw[if_neg (λq=>e q.symm)];exact QX h (λq=>e (by rw[q]))
theorem fR{y o z:Ob}(h1:y.kind.toList=o.kind.toList)(h2:y.name.toList=o.name.toList)(h:Fi y z=true):Fi o z=true:=by unfold Fi K9 at h⊢;rw[<-h1,<-h2];exact h
def rG (l:List Ob):Prop:=l.Pairwise λa b=>Fi a b=true
theorem TX{n:Nat}{x:Nat->Ob}:UY n x↔rG (Nh n x):=by
 unfold rG Nh;rw[List.pairwise_iff_getElem];constructor;.intro h i j hi hj hij;simp only[List.length_map,List.length_range]at hi hj;simpa using h i j hij hj
 .intro h i j hij hj;have:=h i j Zd Zd hij;simpa using this
theorem Vs (o:Ob):∀(l:List Ob)(z:Ob),z∈M5 o l->z=o\/z∈l
 |[],z,h=>AB (by simpa[M5]using h)
 |y::r,z,h=>by
  unfold M5 at h;split at h
  .rcases Fy.1 h with rfl|h;.exact AE (MJ)
   .rcases Vs o r z h with e|e;.exact AB e
    .exact AE (L1 _ e)
  .rcases Fy.1 h with rfl|h;.exact AB rfl
   .exact AE (Dj.1 h).1
theorem XB (o:Ob):∀l:List Ob,rG l->rG (M5 o l)
 |[],_=>by simp[rG,M5]
 |y::r,h=>by
  have hr:=List.pairwise_cons.1 h;unfold M5;split
  .rename_i hy;refine List.pairwise_cons.2 ⟨λz hz=>?_,XB o r hr.2⟩;rcases Vs o r z hz with rfl|e;.exact hy
   .exact hr.1 z e
  .rename_i hy;have hy':Fi y o=false:=by simpa using hy
   refine List.pairwise_cons.2 ⟨λz hz=>?_,List.Pairwise.filter _ h⟩;obtain⟨hz1,hz2⟩:=Dj.1 hz;have hzk:¬(z.kind.toList=o.kind.toList/\z.name.toList=o.name.toList):=λe=>by have:EU z o=0:=(Np _ _).2 e;unfold Li at hz2;simp[this]at hz2
   rcases Fy.1 hz1 with rfl|e;.exact UB hy' hzk
   .have h1:=hr.1 z e;by_cases hk:y.kind.toList=o.kind.toList/\y.name.toList=o.name.toList;.exact fR hk.1 hk.2 h1
    .exact OI (UB hy' hk) h1
theorem Xv{o:Ob}{g:Bool}{l:List Ob}(h:rG l):rG (Ry o g l):=by
 unfold Ry;split;.exact List.Pairwise.filter _ h
 .exact XB o l h
theorem VQ (o:Ob):∀l:List Ob,(∃y,y∈l/\EU y o=0)->(M5 o l).length<=l.length
 |[],h=>by obtain⟨y,hy,_⟩:=h;cases hy
 |y::r,h=>by
  unfold M5;split
  .rename_i hy;have:∃z,z∈r/\EU z o=0:=by
    obtain⟨z,hz,hk⟩:=h;rcases Fy.1 hz with rfl|e;.have e:=(Np _ _).1 hk;rw[eL e.1 e.2]at hy;cases hy
    .exact⟨z,e,hk⟩
   have:=VQ o r this;simp only[DK];omega
  .have:((y::r).filter (Li o)).length<(y::r).length:=by rw[List.length_filter_lt_length_iff_exists];obtain⟨z,hz,hk⟩:=h;exact⟨z,hz,by simp[Li,hk]⟩
   simp only[DK]at this⊢;omega
theorem oO{n:Nat}{s:Nat->ByteArray}{a:ByteArray}(h:MU n s)(hn:Nl n s a=false):MU (n+1) (QM s (Ll s a n) a):=by
 obtain⟨g1,g2,g3⟩:=M2 s a n;have hne:∀i,i<n->¬s i=a:=λi hi e=>by rw[Su hi e]at hn;cases hn
 intro i j hij hj;unfold QM;rcases LN i (Ll s a n)with h1|h1|h1
 .rw[if_pos h1];rcases LN j (Ll s a n)with h2|h2|h2;.rw[if_pos h2];exact h i j hij Za
  .rw[if_neg Za,if_pos h2];exact g2 i h1
  .rw[if_neg Za,if_neg Za];exact h i (j-1) Za Za
 .rw[if_neg Za,if_pos h1,if_neg Za,if_neg Za];have hk:Ll s a n<n:=Za;have h3:=QX (g3 hk) (hne _ hk);rcases Aw (Ll s a n) (j-1)with h4|h4;.exact Ni h3 (h _ _ h4 Za)
  .rw[show j-1=Ll s a n by omega];exact h3
 .rw[if_neg Za,if_neg Za,if_neg Za,if_neg Za];exact h (i-1) (j-1) Za Za
theorem pO{n:Nat}{s:Nat->ByteArray}{k:Nat}(h:MU n s):MU (n-1) (Ns s k):=by
 intro i j hij hj;unfold Ns;by_cases h1:i<k
 .rw[if_pos h1];by_cases h2:j<k;.rw[if_pos h2];exact h i j hij Za
  .rw[if_neg h2];exact h i (j+1) Za Za
 .rw[if_neg h1,if_neg Za];exact h (i+1) (j+1) Za Za
theorem Nk{B:Bk}{v:Wr}(hc:BN B v=0):Ed B v=0/\B.now<1000000:=by
 unfold BN at hc;split at hc
 .rename_i h;refine⟨h,?_⟩;split at hc;.cases hc
  .omega
 .rename_i h;exact absurd hc h
theorem Vl{B:Bk}{v:Wr}(hok:Nj B v)(hc:BN B v=0):(Cv B v).hn<=5/\MU (Cv B v).hn (Cv B v).hs:=by
 obtain⟨h1,h2,_⟩:=Wn hok;have h0:=(Nk hc).1;unfold Ed at h0;split at h0;.cases h0
 split at h0;.cases h0
 split at h0;.cases h0
 unfold Cv M8;by_cases e1:v.op=1;.rw[if_pos e1];refine⟨by dsimp only;split<;>omega,λi j h3 h4=>?_⟩;dsimp only at h4;split at h4<;>omega
 .rw[if_neg e1];rw[if_neg e1]at h0;by_cases e2:v.op=2;.rw[if_pos e2];exact⟨h1,h2⟩
  .rw[if_neg e2];by_cases e3:v.op=3;.rw[if_pos e3];exact⟨h1,h2⟩
   .rw[if_neg e3];by_cases e4:v.op=4
    .rw[if_pos e4];rw[if_pos e4]at h0;split at h0;.cases h0
     .rename_i hh;split at h0;.cases h0
      .refine⟨by dsimp only;omega,oO h2 (by simpa using hh)⟩
    .rw[if_neg e4];exact⟨by dsimp only;omega,pO h2⟩
theorem Oh (B:Bk)(v:Wr):Nh (Mj B v).on (Mj B v).os=Ry (Cv B v) (C7 B v) (Nh B.on B.os):=TM _ _ _ _
theorem gM{B:Bk}{v:Wr}(hok:Nj B v)(hc:BN B v=0):(Mj B v).on<=100:=by
 have hl:(Mj B v).on=(Ry (Cv B v) (C7 B v) (Nh B.on B.os)).length:=by rw[<-Oh,TP]
 have h100:=hok.on;cases hf:B4 B.os v.kind v.name B.on with
 |true=>
  rw[hl];unfold Ry;split;.have:=List.length_filter_le (Li (Cv B v)) (Nh B.on B.os);rw[TP]at this;omega
  .obtain⟨k1,k2⟩:=lD (U5 hc);have:∃y,y∈Nh B.on B.os/\EU y (Cv B v)=0:=by unfold B4 at hf;cases hx:Nq B.os v.kind v.name B.on with
    |none=>rw[hx]at hf;cases hf
    |some i=>obtain⟨q1,q2,q3⟩:=OU hx;refine⟨B.os i,by unfold Nh;exact Ov.2 ⟨i,by simpa using q1,rfl⟩,(Np _ _).2 ?_⟩;rw[k1,k2,q2,q3];exact⟨rfl,rfl⟩
   have:=VQ (Cv B v) _ this;rw[TP]at this;omega
 |false=>
  have h1:v.op=1:=by
   rcases U5 hc with h|h;.rw[h]at hf;cases hf
   .exact h
  have h0:=(Nk hc).1;unfold Ed at h0;split at h0;.cases h0
  split at h0;.cases h0
  split at h0;.cases h0
  split at h0;.cases h0
  .have:=TD B.on B.os (Cv B v) (C7 B v);have e:(Mj B v).on=(KV B.on B.os (Cv B v) (C7 B v)).m:=rfl;omega
theorem jQ{B:Bk}{v v':Wr}(hok:Nj B v)(hc:BN B v=0)(hw:LF v'=true)(wf:Sy v'):Nj (Mj B v) v':=by
 have h0:=hok.now0;have h1:=(Nk hc).2;refine⟨(Us hok).1,?_,?_,gM hok hc,?_,?_,λi _=>?_,hw,wf⟩;.show 0<=B.now+1;omega
 .show B.now+1<=1000000;omega
 .show B.hn-ME B+1<=200;have:=hok.hn;unfold ME;split<;>omega
 .rw[TX,Oh];exact Xv (TX.1 hok.asc)
 .exact Sq (P:=λo=>o.hn<=5/\MU o.hn o.hs) (Vl hok hc) hok.hold i
def Ex (B:Bk)(x:Nat->Wr):Nat->Bk
 |0=>B
 |k+1=>Mj (Ex B x k) (x k)
def PI (p:Nat->Bool):Nat->Nat
 |0=>0
 |n+1=>if PI p n<n then PI p n else if p n then n+1 else n
theorem QU (p:Nat->Bool):∀n,PI p n<=n/\(∀j,j<PI p n->p j=true)/\(PI p n<n->p (PI p n)=false)
 |0=>⟨AG _,λj hj=>absurd hj (Ai _),λh=>absurd h (Ai _)⟩
 |n+1=>by
  obtain⟨h1,h2,h3⟩:=QU p n;unfold PI;split;.rename_i h;exact⟨Za,h2,λ_=>h3 h⟩
  .rename_i h;have e:PI p n=n:=Za;rw[e]at h2;split
   .rename_i hp;refine⟨AG _,λj hj=>?_,λq=>absurd q (AY _)⟩;rcases Aw j n with q|q;.exact h2 j q
    .obtain rfl:j=n:=Za;exact hp
   .rename_i hp;exact⟨Za,h2,λ_=>by simpa using hp⟩
theorem XK{p:Nat->Bool}{n k:Nat}(hk:k<n)(h:∀j,j<k->p j=true)(hp:p k=false):PI p n=k:=by
 obtain⟨h1,h2,h3⟩:=QU p n;rcases LN (PI p n) k with q|q|q;.have:=h3 Za;rw[h _ q]at this;cases this
 .exact q
 .have:=h2 k q;rw[hp]at this;cases this
theorem Rm{p:Nat->Bool}{n:Nat}(h:∀j,j<n->p j=true):PI p n=n:=by
 obtain⟨h1,h2,h3⟩:=QU p n;rcases Aw (PI p n) n with q|q;.have:=h3 q;rw[h _ q]at this;cases this
 .omega
def WC (x:Wt):Bool:=BB x.kind&&(BB x.name&&decide (0<=x.ver))
def QK (x:Bu):Bool:=decide (x.wn<=10)&&(decide (x.rn<=10)&&(Bg (λi=>WC (x.ws i)) x.wn&&Bg (λi=>LF (x.rs i)) x.rn))
def Uj (B:Bk)(x:Wt):Bool:=decide ((Cu B.os x.kind x.name B.on).ver=x.ver)
def T9 (B:Bk)(x:Bu)(k:Nat):Bool:=decide (BN (Ex B x.rs k) (x.rs k)=0)
def iG (B:Bk)(x:Bu):Nat:=PI (λi=>Uj B (x.ws i)) x.wn
def Wb (B:Bk)(x:Bu):Nat:=PI (T9 B x) x.rn
def Cw (B:Bk)(x:Bu):Int:=if iG B x<x.wn then 9 else if Wb B x<x.rn then BN (Ex B x.rs (Wb B x)) (x.rs (Wb B x))else 0
def BJ (B:Bk)(x:Bu):Bk:=if iG B x<x.wn\/Wb B x<x.rn then B else Ex B x.rs x.rn
def CM (B:Bk)(x:Bu):Int:=if iG B x<x.wn\/Wb B x<x.rn then 0 else(Ex B x.rs x.rn).now
def UQ (B:Bk)(x:Bu):Nat:=if iG B x<x.wn then iG B x else if Wb B x<x.rn then Wb B x else 0
structure UD (x:Bu):Prop where
 wn:x.wn<=10
 rn:x.rn<=10
 ws:∀i,i<x.wn->WC (x.ws i)=true
 rs:∀i,i<x.rn->LF (x.rs i)=true
theorem MT{x:Bu}(h:QK x=true):UD x:=by unfold QK at h;simp only[Am,decide_eq_true_eq,AV]at h;exact⟨h.1,h.2.1,h.2.2.1,h.2.2.2⟩
theorem WP{B:Bk}{x:Bu}(hf:BQ B)(hv:Bg (Me B) 7=true)(hu:OC x)(hb:UD x):∀k,k<x.rn->(∀j,j<k->T9 B x j=true)->Nj (Ex B x.rs k) (x.rs k)
 |0,h0,_=>WI hf hv (hb.rs 0 h0) (hu.rs 0 h0)
 |k+1,h0,h=>jQ (WP hf hv hu hb k Za (λj hj=>h j Za)) (of_decide_eq_true (h k Za)) (hb.rs _ h0) (hu.rs _ h0)
end Go.Proofs.YtnnjcenacidceaaGreat
