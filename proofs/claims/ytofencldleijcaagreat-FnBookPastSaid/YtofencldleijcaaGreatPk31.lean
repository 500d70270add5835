import Derived.Test.YtofencldleijcaaGreatPk27
import Derived.Test.YtofencldleijcaaGreatPk29
set_option maxRecDepth 100000
namespace Go.Proofs.YtofencldleijcaaGreat
open Go.RowKit Go.Proofs.Tryz
/-! a write keeps what a write wants -/
theorem NW{y o:Ob}(h:CN y o=false)(hk:¬(y.kind.toList=o.kind.toList/\y.name.toList=o.name.toList)):CN o y=true:=by
 unfold CN at h⊢;by_cases e:y.kind.toList=o.kind.toList;.rw[if_pos e]at h;rw[if_pos e.symm];exact ML h (λq=>hk ⟨e,by rw[q]⟩)
 .rw[if_neg e]at h;rw[if_neg (λq=>e q.symm)];exact ML h (λq=>e (by rw[q]))
theorem QD{y o z:Ob}(h1:y.kind.toList=o.kind.toList)(h2:y.name.toList=o.name.toList)(h:CN y z=true):CN o z=true:=by unfold CN ER at h⊢;rw[<-h1,<-h2];exact h
def Ol (l:List Ob):Prop:=l.Pairwise λa b=>CN a b=true
theorem KN{n:Nat}{x:Nat->Ob}:QQ n x↔Ol (Eo n x):=by
 unfold Ol Eo;rw[Lv];constructor;.intro h i j hi hj hij;simp only[J5,Ds]at hi hj;simpa using h i j hij hj
 .intro h i j hij hj;have:=h i j Zd Zd hij;simpa using this
theorem Qi (o:Ob):∀(l:List Ob)(z:Ob),z∈Ht o l->z=o\/z∈l
 |[],z,h=>AO (by simpa[Ht]using h)
 |y::r,z,h=>by
  unfold Ht at h;split at h
  .rcases CD.1 h with rfl|h;.exact AD (Cs)
   .rcases Qi o r z h with e|e;.exact AO e
    .exact AD (CZ _ e)
  .rcases CD.1 h with rfl|h;.exact AO rfl
   .exact AD (BL.1 h).1
theorem T8 (o:Ob):∀l:List Ob,Ol l->Ol (Ht o l)
 |[],_=>by simp[Ol,Ht]
 |y::r,h=>by
  have hr:=H9.1 h;unfold Ht;split
  .rename_i hy;refine H9.2 ⟨λz hz=>?_,T8 o r hr.2⟩;rcases Qi o r z hz with rfl|e;.exact hy
   .exact hr.1 z e
  .rename_i hy;have hy':CN y o=false:=by simpa using hy
   refine H9.2 ⟨λz hz=>?_,List.Pairwise.filter _ h⟩;obtain⟨hz1,hz2⟩:=BL.1 hz;have hzk:¬(z.kind.toList=o.kind.toList/\z.name.toList=o.name.toList):=λe=>by have:D8 z o=0:=(I9 _ _).2 e;unfold E1 at hz2;simp[this]at hz2
   rcases CD.1 hz1 with rfl|e;.exact NW hy' hzk
   .have h1:=hr.1 z e;by_cases hk:y.kind.toList=o.kind.toList/\y.name.toList=o.name.toList;.exact QD hk.1 hk.2 h1
    .exact Fn (NW hy' hk) h1
theorem Pv{o:Ob}{g:Bool}{l:List Ob}(h:Ol l):Ol (My o g l):=by
 unfold My;split;.exact List.Pairwise.filter _ h
 .exact T8 o l h
theorem QG (o:Ob):∀l:List Ob,(∃y,y∈l/\D8 y o=0)->(Ht o l).length<=l.length
 |[],h=>by obtain⟨y,hy,_⟩:=h;cases hy
 |y::r,h=>by
  unfold Ht;split
  .rename_i hy;have:∃z,z∈r/\D8 z o=0:=by
    obtain⟨z,hz,hk⟩:=h;rcases CD.1 hz with rfl|e;.have e:=(I9 _ _).1 hk;rw[JX e.1 e.2]at hy;cases hy
    .exact⟨z,e,hk⟩
   have:=QG o r this;simp only[Cj];omega
  .have:((y::r).filter (E1 o)).length<(y::r).length:=by rw[List.length_filter_lt_length_iff_exists];obtain⟨z,hz,hk⟩:=h;exact⟨z,hz,by simp[E1,hk]⟩
   simp only[Cj]at this⊢;omega
theorem gG{n:Nat}{s:Nat->ByteArray}{a:ByteArray}(h:IC n s)(hn:I4 n s a=false):IC (n+1) (Mr s (E7 s a n) a):=by
 obtain⟨g1,g2,g3⟩:=IS s a n;have hne:∀i,i<n->¬s i=a:=λi hi e=>by rw[Nx hi e]at hn;cases hn
 intro i j hij hj;unfold Mr;rcases EH i (E7 s a n)with h1|h1|h1
 .rw[if_pos h1];rcases EH j (E7 s a n)with h2|h2|h2;.rw[if_pos h2];exact h i j hij Zb
  .rw[if_neg Zb,if_pos h2];exact g2 i h1
  .rw[if_neg Zb,if_neg Zb];exact h i (j-1) Zb Zb
 .rw[if_neg Zb,if_pos h1,if_neg Zb,if_neg Zb];have hk:E7 s a n<n:=Zb;have h3:=ML (g3 hk) (hne _ hk);rcases At (E7 s a n) (j-1)with h4|h4;.exact I3 h3 (h _ _ h4 Zb)
  .rw[show j-1=E7 s a n by omega];exact h3
 .rw[if_neg Zb,if_neg Zb,if_neg Zb,if_neg Zb];exact h (i-1) (j-1) Zb Zb
theorem eL{n:Nat}{s:Nat->ByteArray}{k:Nat}(h:IC n s):IC (n-1) (Jq s k):=by
 intro i j hij hj;unfold Jq;by_cases h1:i<k
 .rw[if_pos h1];by_cases h2:j<k;.rw[if_pos h2];exact h i j hij Zb
  .rw[if_neg h2];exact h i (j+1) Zb Zb
 .rw[if_neg h1,if_neg Zb];exact h (i+1) (j+1) Zb Zb
theorem He{B:Bk}{v:Wr}(hc:Bv B v=0):Dp B v=0/\B.now<1000000:=by
 unfold Bv at hc;split at hc
 .rename_i h;refine⟨h,?_⟩;split at hc;.cases hc
  .omega
 .rename_i h;exact absurd hc h
theorem QX{B:Bk}{v:Wr}(hok:IR B v)(hc:Bv B v=0):(Cp B v).hn<=5/\IC (Cp B v).hn (Cp B v).hs:=by
 obtain⟨h1,h2,_⟩:=Tj hok;have h0:=(He hc).1;unfold Dp at h0;split at h0;.cases h0
 split at h0;.cases h0
 split at h0;.cases h0
 unfold Cp IP;by_cases e1:v.op=1;.rw[if_pos e1];refine⟨by dsimp only;split<;>omega,λi j h3 h4=>?_⟩;dsimp only at h4;split at h4<;>omega
 .rw[if_neg e1];rw[if_neg e1]at h0;by_cases e2:v.op=2;.rw[if_pos e2];exact⟨h1,h2⟩
  .rw[if_neg e2];by_cases e3:v.op=3;.rw[if_pos e3];exact⟨h1,h2⟩
   .rw[if_neg e3];by_cases e4:v.op=4
    .rw[if_pos e4];rw[if_pos e4]at h0;split at h0;.cases h0
     .rename_i hh;split at h0;.cases h0
      .refine⟨by dsimp only;omega,gG h2 (by simpa using hh)⟩
    .rw[if_neg e4];exact⟨by dsimp only;omega,eL h2⟩
theorem J9 (B:Bk)(v:Wr):Eo (Eg B v).on (Eg B v).os=My (Cp B v) (CK B v) (Eo B.on B.os):=Jt _ _ _ _
theorem Xz{B:Bk}{v:Wr}(hok:IR B v)(hc:Bv B v=0):(Eg B v).on<=100:=by
 have hl:(Eg B v).on=(My (Cp B v) (CK B v) (Eo B.on B.os)).length:=by rw[<-J9,Lr]
 have h100:=hok.on;cases hf:B8 B.os v.kind v.name B.on with
 |true=>
  rw[hl];unfold My;split;.have:=List.length_filter_le (E1 (Cp B v)) (Eo B.on B.os);rw[Lr]at this;omega
  .obtain⟨k1,k2⟩:=aC (Q3 hc);have:∃y,y∈Eo B.on B.os/\D8 y (Cp B v)=0:=by unfold B8 at hf;cases hx:Jb B.os v.kind v.name B.on with
    |none=>rw[hx]at hf;cases hf
    |some i=>obtain⟨q1,q2,q3⟩:=Ju hx;refine⟨B.os i,by unfold Eo;exact CI.2 ⟨i,by simpa using q1,rfl⟩,(I9 _ _).2 ?_⟩;rw[k1,k2,q2,q3];exact⟨rfl,rfl⟩
   have:=QG (Cp B v) _ this;rw[Lr]at this;omega
 |false=>
  have h1:v.op=1:=by
   rcases Q3 hc with h|h;.rw[h]at hf;cases hf
   .exact h
  have h0:=(He hc).1;unfold Dp at h0;split at h0;.cases h0
  split at h0;.cases h0
  split at h0;.cases h0
  split at h0;.cases h0
  .have:=Ka B.on B.os (Cp B v) (CK B v);have e:(Eg B v).on=(Cq B.on B.os (Cp B v) (CK B v)).m:=rfl;omega
theorem Y7{B:Bk}{v v':Wr}(hok:IR B v)(hc:Bv B v=0)(hw:EU v'=true)(wf:Ml v'):IR (Eg B v) v':=by
 have h0:=hok.now0;have h1:=(He hc).2;refine⟨(MJ hok).1,?_,?_,Xz hok hc,?_,?_,λi _=>?_,hw,wf⟩;.show 0<=B.now+1;omega
 .show B.now+1<=1000000;omega
 .show B.hn-GG B+1<=200;have:=hok.hn;unfold GG;split<;>omega
 .rw[KN,J9];exact Pv (KN.1 hok.asc)
 .exact Js (P:=λo=>o.hn<=5/\IC o.hn o.hs) (QX hok hc) hok.hold i
def CO (B:Bk)(x:Nat->Wr):Nat->Bk
 |0=>B
 |k+1=>Eg (CO B x k) (x k)
def La (p:Nat->Bool):Nat->Nat
 |0=>0
 |n+1=>if La p n<n then La p n else if p n then n+1 else n
theorem MV (p:Nat->Bool):∀n,La p n<=n/\(∀j,j<La p n->p j=true)/\(La p n<n->p (La p n)=false)
 |0=>⟨Az _,λj hj=>absurd hj (Ai _),λh=>absurd h (Ai _)⟩
 |n+1=>by
  obtain⟨h1,h2,h3⟩:=MV p n;unfold La;split;.rename_i h;exact⟨Zb,h2,λ_=>h3 h⟩
  .rename_i h;have e:La p n=n:=Zb;rw[e]at h2;split
   .rename_i hp;refine⟨Az _,λj hj=>?_,λq=>absurd q (AJ _)⟩;rcases At j n with q|q;.exact h2 j q
    .obtain rfl:j=n:=Zb;exact hp
   .rename_i hp;exact⟨Zb,h2,λ_=>by simpa using hp⟩
theorem TW{p:Nat->Bool}{n k:Nat}(hk:k<n)(h:∀j,j<k->p j=true)(hp:p k=false):La p n=k:=by
 obtain⟨h1,h2,h3⟩:=MV p n;rcases EH (La p n) k with q|q|q;.have:=h3 Zb;rw[h _ q]at this;cases this
 .exact q
 .have:=h2 k q;rw[hp]at this;cases this
theorem Oe{p:Nat->Bool}{n:Nat}(h:∀j,j<n->p j=true):La p n=n:=by
 obtain⟨h1,h2,h3⟩:=MV p n;rcases At (La p n) n with q|q;.have:=h3 q;rw[h _ q]at this;cases this
 .omega
def SH (x:Wt):Bool:=By x.kind&&(By x.name&&decide (0<=x.ver))
def MC (x:Bu):Bool:=decide (x.wn<=10)&&(decide (x.rn<=10)&&(Be (λi=>SH (x.ws i)) x.wn&&Be (λi=>EU (x.rs i)) x.rn))
def PP (B:Bk)(x:Wt):Bool:=decide ((BS B.os x.kind x.name B.on).ver=x.ver)
def PJ (B:Bk)(x:Bu)(k:Nat):Bool:=decide (Bv (CO B x.rs k) (x.rs k)=0)
def XU (B:Bk)(x:Bu):Nat:=La (λi=>PP B (x.ws i)) x.wn
def R3 (B:Bk)(x:Bu):Nat:=La (PJ B x) x.rn
def Ct (B:Bk)(x:Bu):Int:=if XU B x<x.wn then 9 else if R3 B x<x.rn then Bv (CO B x.rs (R3 B x)) (x.rs (R3 B x))else 0
def BI (B:Bk)(x:Bu):Bk:=if XU B x<x.wn\/R3 B x<x.rn then B else CO B x.rs x.rn
def CG (B:Bk)(x:Bu):Int:=if XU B x<x.wn\/R3 B x<x.rn then 0 else(CO B x.rs x.rn).now
def Rv (B:Bk)(x:Bu):Nat:=if XU B x<x.wn then XU B x else if R3 B x<x.rn then R3 B x else 0
structure Qr (x:Bu):Prop where
 wn:x.wn<=10
 rn:x.rn<=10
 ws:∀i,i<x.wn->SH (x.ws i)=true
 rs:∀i,i<x.rn->EU (x.rs i)=true
theorem IB{x:Bu}(h:MC x=true):Qr x:=by unfold MC at h;simp only[Ak,decide_eq_true_eq,AC]at h;exact⟨h.1,h.2.1,h.2.2.1,h.2.2.2⟩
theorem SR{B:Bk}{x:Bu}(hf:Dm B)(hv:Be (Hw B) 7=true)(hu:Ku x)(hb:Qr x):∀k,k<x.rn->(∀j,j<k->PJ B x j=true)->IR (CO B x.rs k) (x.rs k)
 |0,h0,_=>M5 hf hv (hb.rs 0 h0) (hu.rs 0 h0)
 |k+1,h0,h=>Y7 (SR hf hv hu hb k Zb (λj hj=>h j Zb)) (of_decide_eq_true (h k Zb)) (hb.rs _ h0) (hu.rs _ h0)
end Go.Proofs.YtofencldleijcaaGreat
