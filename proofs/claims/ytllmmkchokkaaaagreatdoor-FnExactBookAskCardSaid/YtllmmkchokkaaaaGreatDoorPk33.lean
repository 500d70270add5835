import Derived.Test.YtllmmkchokkaaaaGreatDoorPk31
import Derived.Test.YtllmmkchokkaaaaGreatDoorPk32
set_option maxRecDepth 100000
namespace Go.Proofs.YtllmmkchokkaaaaGreatDoor
open Go.RowKit Go.Proofs.Tryz
/-! a write keeps what a write wants -/
theorem S3{y o:Ob}(h:DH y o=false)(hk:¬(y.kind.toList=o.kind.toList/\y.name.toList=o.name.toList)):DH o y=true:=by
 unfold DH at h⊢;by_cases e:y.kind.toList=o.kind.toList;.rw[if_pos e]at h;rw[if_pos e.symm];exact Sg h (λq=>hk ⟨e,by rw[q]⟩)
 .rw[if_neg e]at h;rw[if_neg (λq=>e q.symm)];exact Sg h (λq=>e (by rw[q]))
theorem fA{y o z:Ob}(h1:y.kind.toList=o.kind.toList)(h2:y.name.toList=o.name.toList)(h:DH y z=true):DH o z=true:=by unfold DH D4 at h⊢;rw[<-h1,<-h2];exact h
def pN (l:List Ob):Prop:=l.Pairwise λa b=>DH a b=true
theorem b6{n:Nat}{x:Nat->Ob}:bE n x↔pN (IL n x):=by
 unfold pN IL;rw[G3];constructor;.intro h i j hi hj hij;simp only[List.length_map,List.length_range]at hi hj;simpa using h i j hij hj
 .intro h i j hij hj;have:=h i j Zd Zd hij;simpa using this
theorem SV (o:Ob):∀(l:List Ob)(z:Ob),z∈Km o l->z=o\/z∈l
 |[],z,h=>AD (by simpa[Km]using h)
 |y::r,z,h=>by
  unfold Km at h;split at h
  .rcases EI.1 h with rfl|h;.exact Ax (List.mem_cons_self)
   .rcases SV o r z h with e|e;.exact AD e
    .exact Ax (List.mem_cons_of_mem _ e)
  .rcases EI.1 h with rfl|h;.exact AD rfl
   .exact Ax (KJ.1 h).1
theorem WI (o:Ob):∀l:List Ob,pN l->pN (Km o l)
 |[],_=>by simp[pN,Km]
 |y::r,h=>by
  have hr:=LZ.1 h;unfold Km;split
  .rename_i hy;refine LZ.2 ⟨λz hz=>?_,WI o r hr.2⟩;rcases SV o r z hz with rfl|e;.exact hy
   .exact hr.1 z e
  .rename_i hy;have hy':DH y o=false:=by simpa using hy
   refine LZ.2 ⟨λz hz=>?_,List.Pairwise.filter _ h⟩;obtain⟨hz1,hz2⟩:=KJ.1 hz;have hzk:¬(z.kind.toList=o.kind.toList/\z.name.toList=o.name.toList):=λe=>by have:Eo z o=0:=(KT _ _).2 e;unfold Dt at hz2;simp[this]at hz2
   rcases EI.1 hz1 with rfl|e;.exact S3 hy' hzk
   .have h1:=hr.1 z e;by_cases hk:y.kind.toList=o.kind.toList/\y.name.toList=o.name.toList;.exact fA hk.1 hk.2 h1
    .exact Lu (S3 hy' hk) h1
theorem j7{o:Ob}{g:Bool}{l:List Ob}(h:pN l):pN (Rq o g l):=by
 unfold Rq;split;.exact List.Pairwise.filter _ h
 .exact WI o l h
theorem Tu (o:Ob):∀l:List Ob,(∃y,y∈l/\Eo y o=0)->(Km o l).length<=l.length
 |[],h=>by obtain⟨y,hy,_⟩:=h;cases hy
 |y::r,h=>by
  unfold Km;split
  .rename_i hy;have:∃z,z∈r/\Eo z o=0:=by
    obtain⟨z,hz,hk⟩:=h;rcases EI.1 hz with rfl|e;.have e:=(KT _ _).1 hk;rw[TW e.1 e.2]at hy;cases hy
    .exact⟨z,e,hk⟩
   have:=Tu o r this;simp only[JO];omega
  .have:((y::r).filter (Dt o)).length<(y::r).length:=by rw[List.length_filter_lt_length_iff_exists];obtain⟨z,hz,hk⟩:=h;exact⟨z,hz,by simp[Dt,hk]⟩
   simp only[JO]at this⊢;omega
theorem rA{n:Nat}{s:Nat->ByteArray}{a:ByteArray}(h:EX n s)(hn:D2 n s a=false):EX (n+1) (Nq s (DY s a n) a):=by
 obtain⟨g1,g2,g3⟩:=I5 s a n;have hne:∀i,i<n->¬s i=a:=λi hi e=>by rw[O5 hi e]at hn;cases hn
 intro i j hij hj;unfold Nq;rcases DQ i (DY s a n)with h1|h1|h1
 .rw[if_pos h1];rcases DQ j (DY s a n)with h2|h2|h2;.rw[if_pos h2];exact h i j hij Za
  .rw[if_neg Za,if_pos h2];exact g2 i h1
  .rw[if_neg Za,if_neg Za];exact h i (j-1) Za Za
 .rw[if_neg Za,if_pos h1,if_neg Za,if_neg Za];have hk:DY s a n<n:=Za;have h3:=Sg (g3 hk) (hne _ hk);rcases As (DY s a n) (j-1)with h4|h4;.exact Gy h3 (h _ _ h4 Za)
  .rw[show j-1=DY s a n by omega];exact h3
 .rw[if_neg Za,if_neg Za,if_neg Za,if_neg Za];exact h (i-1) (j-1) Za Za
theorem rL{n:Nat}{s:Nat->ByteArray}{k:Nat}(h:EX n s):EX (n-1) (JC s k):=by
 intro i j hij hj;unfold JC;by_cases h1:i<k
 .rw[if_pos h1];by_cases h2:j<k;.rw[if_pos h2];exact h i j hij Za
  .rw[if_neg h2];exact h i (j+1) Za Za
 .rw[if_neg h1,if_neg Za];exact h (i+1) (j+1) Za Za
theorem Nx{B:Bk}{v:Wr}(hc:Bd B v=0):CA B v=0/\B.now<1000000:=by
 unfold Bd at hc;split at hc
 .rename_i h;refine⟨h,?_⟩;split at hc;.cases hc
  .omega
 .rename_i h;exact absurd hc h
theorem S7{B:Bk}{v:Wr}(hok:Hp B v)(hc:Bd B v=0):(C7 B v).hn<=5/\EX (C7 B v).hn (C7 B v).hs:=by
 obtain⟨h1,h2,_⟩:=Ux hok;have h0:=(Nx hc).1;unfold CA at h0;split at h0;.cases h0
 split at h0;.cases h0
 split at h0;.cases h0
 unfold C7 C4;by_cases e1:v.op=1;.rw[if_pos e1];refine⟨by dsimp only;split<;>omega,λi j h3 h4=>?_⟩;dsimp only at h4;split at h4<;>omega
 .rw[if_neg e1];rw[if_neg e1]at h0;by_cases e2:v.op=2;.rw[if_pos e2];exact⟨h1,h2⟩
  .rw[if_neg e2];by_cases e3:v.op=3;.rw[if_pos e3];exact⟨h1,h2⟩
   .rw[if_neg e3];by_cases e4:v.op=4
    .rw[if_pos e4];rw[if_pos e4]at h0;split at h0;.cases h0
     .rename_i hh;split at h0;.cases h0
      .refine⟨by dsimp only;omega,rA h2 (by simpa using hh)⟩
    .rw[if_neg e4];exact⟨by dsimp only;omega,rL h2⟩
theorem Ws (B:Bk)(v:Wr):IL (FI B v).on (FI B v).os=Rq (C7 B v) (CS B v) (IL B.on B.os):=Mx _ _ _ _
theorem bU{B:Bk}{v:Wr}(hok:Hp B v)(hc:Bd B v=0):(FI B v).on<=100:=by
 have hl:(FI B v).on=(Rq (C7 B v) (CS B v) (IL B.on B.os)).length:=by rw[<-Ws,Rn]
 have h100:=hok.on;cases hf:Cw B.os v.kind v.name B.on with
 |true=>
  rw[hl];unfold Rq;split;.have:=List.length_filter_le (Dt (C7 B v)) (IL B.on B.os);rw[Rn]at this;omega
  .obtain⟨k1,k2⟩:=Wq (KB hc);have:∃y,y∈IL B.on B.os/\Eo y (C7 B v)=0:=by unfold Cw at hf;cases hx:JS B.os v.kind v.name B.on with
    |none=>rw[hx]at hf;cases hf
    |some i=>obtain⟨q1,q2,q3⟩:=ND hx;refine⟨B.os i,by unfold IL;exact Ey.2 ⟨i,by simpa using q1,rfl⟩,(KT _ _).2 ?_⟩;rw[k1,k2,q2,q3];exact⟨rfl,rfl⟩
   have:=Tu (C7 B v) _ this;rw[Rn]at this;omega
 |false=>
  have h1:v.op=1:=by
   rcases KB hc with h|h;.rw[h]at hf;cases hf
   .exact h
  have h0:=(Nx hc).1;unfold CA at h0;split at h0;.cases h0
  split at h0;.cases h0
  split at h0;.cases h0
  split at h0;.cases h0
  .have:=Qz B.on B.os (C7 B v) (CS B v);have e:(FI B v).on=(Ep B.on B.os (C7 B v) (CS B v)).m:=rfl;omega
theorem jO{B:Bk}{v v':Wr}(hok:Hp B v)(hc:Bd B v=0)(hw:Er v'=true)(wf:Kq v'):Hp (FI B v) v':=by
 have h0:=hok.now0;have h1:=(Nx hc).2;refine⟨(WD hok).1,?_,?_,bU hok hc,?_,?_,λi _=>?_,hw,wf⟩;.show 0<=B.now+1;omega
 .show B.now+1<=1000000;omega
 .show B.hn-Ck B+1<=200;have:=hok.hn;unfold Ck;split<;>omega
 .rw[b6,Ws];exact j7 (b6.1 hok.asc)
 .exact Lz (P:=λo=>o.hn<=5/\EX o.hn o.hs) (S7 hok hc) hok.hold i
def Cd (B:Bk)(x:Nat->Wr):Nat->Bk
 |0=>B
 |k+1=>FI (Cd B x k) (x k)
def MP (p:Nat->Bool):Nat->Nat
 |0=>0
 |n+1=>if MP p n<n then MP p n else if p n then n+1 else n
theorem OK (p:Nat->Bool):∀n,MP p n<=n/\(∀j,j<MP p n->p j=true)/\(MP p n<n->p (MP p n)=false)
 |0=>⟨Aw _,λj hj=>absurd hj (Al _),λh=>absurd h (Al _)⟩
 |n+1=>by
  obtain⟨h1,h2,h3⟩:=OK p n;unfold MP;split;.rename_i h;exact⟨Za,h2,λ_=>h3 h⟩
  .rename_i h;have e:MP p n=n:=Za;rw[e]at h2;split
   .rename_i hp;refine⟨Aw _,λj hj=>?_,λq=>absurd q (Bt _)⟩;rcases As j n with q|q;.exact h2 j q
    .obtain rfl:j=n:=Za;exact hp
   .rename_i hp;exact⟨Za,h2,λ_=>by simpa using hp⟩
theorem OG{p:Nat->Bool}{n k:Nat}(hk:k<n)(h:∀j,j<k->p j=true)(hp:p k=false):MP p n=k:=by
 obtain⟨h1,h2,h3⟩:=OK p n;rcases DQ (MP p n) k with q|q|q;.have:=h3 Za;rw[h _ q]at this;cases this
 .exact q
 .have:=h2 k q;rw[hp]at this;cases this
theorem Ji{p:Nat->Bool}{n:Nat}(h:∀j,j<n->p j=true):MP p n=n:=by
 obtain⟨h1,h2,h3⟩:=OK p n;rcases As (MP p n) n with q|q;.have:=h3 q;rw[h _ q]at this;cases this
 .omega
def PB (x:Wt):Bool:=Bv x.kind&&(Bv x.name&&decide (0<=x.ver))
def K2 (x:Bu):Bool:=decide (x.wn<=10)&&(decide (x.rn<=10)&&(Bi (λi=>PB (x.ws i)) x.wn&&Bi (λi=>Er (x.rs i)) x.rn))
def K1 (B:Bk)(x:Wt):Bool:=decide ((Cv B.os x.kind x.name B.on).ver=x.ver)
def Ko (B:Bk)(x:Bu)(k:Nat):Bool:=decide (Bd (Cd B x.rs k) (x.rs k)=0)
def SS (B:Bk)(x:Bu):Nat:=MP (λi=>K1 B (x.ws i)) x.wn
def VJ (B:Bk)(x:Bu):Nat:=MP (Ko B x) x.rn
def BN (B:Bk)(x:Bu):Int:=if SS B x<x.wn then 9 else if VJ B x<x.rn then Bd (Cd B x.rs (VJ B x)) (x.rs (VJ B x))else 0
def AQ (B:Bk)(x:Bu):Bk:=if SS B x<x.wn\/VJ B x<x.rn then B else Cd B x.rs x.rn
def BW (B:Bk)(x:Bu):Int:=if SS B x<x.wn\/VJ B x<x.rn then 0 else(Cd B x.rs x.rn).now
def Jl (B:Bk)(x:Bu):Nat:=if SS B x<x.wn then SS B x else if VJ B x<x.rn then VJ B x else 0
structure Pc (x:Bu):Prop where
 wn:x.wn<=10
 rn:x.rn<=10
 ws:∀i,i<x.wn->PB (x.ws i)=true
 rs:∀i,i<x.rn->Er (x.rs i)=true
theorem Gc{x:Bu}(h:K2 x=true):Pc x:=by unfold K2 at h;simp only[AG,decide_eq_true_eq,Bm]at h;exact⟨h.1,h.2.1,h.2.2.1,h.2.2.2⟩
theorem RT{B:Bk}{x:Bu}(hf:Cx B)(hv:Bi (Ht B) 7=true)(hu:Ek x)(hb:Pc x):∀k,k<x.rn->(∀j,j<k->Ko B x j=true)->Hp (Cd B x.rs k) (x.rs k)
 |0,h0,_=>eB hf hv (hb.rs 0 h0) (hu.rs 0 h0)
 |k+1,h0,h=>jO (RT hf hv hu hb k Za (λj hj=>h j Za)) (of_decide_eq_true (h k Za)) (hb.rs _ h0) (hu.rs _ h0)
theorem QU{B:Bk}{x:Bu}(hf:Cx B)(hv:Bi (Ht B) 7=true)(hu:Ek x)(hb:Pc x)(hs:Hn B<=1048576):∀k,k<=x.rn->(∀j,j<k->Ko B x j=true)->Cx (Cd B x.rs k)/\(Cd B x.rs k).on<=100/\(Cd B x.rs k).hn<=200/\(Cd B x.rs k).tn=B.tn/\(∀i,i<(Cd B x.rs k).on->((Cd B x.rs k).os i).hn<=1048576)/\(∀i,i<(Cd B x.rs k).hn->((Cd B x.rs k).hs i).ob.hn<=1048576)
 |0,_,_=>by obtain⟨h1,h2⟩:=aQ hs;have hv':=hv;rw[Bm]at hv';have c1:DW B.on B.os B.now=true:=hv' 1 Za;have c3:Fh B.now B.floor B.hn B.hs=true:=hv' 3 Za;unfold DW at c1;unfold Fh at c3;rw[AG]at c1 c3;exact⟨hf,of_decide_eq_true c1.1,of_decide_eq_true c3.1,rfl,h1,h2⟩
 |k+1,h0,h=>by
  obtain⟨_,_,_,i4,i5,i6⟩:=QU hf hv hu hb hs k Za (λj hj=>h j Za);have hok:=RT hf hv hu hb k Za (λj hj=>h j Za);have hc:Bd (Cd B x.rs k) (x.rs k)=0:=of_decide_eq_true (h k Za);have ho:=S7 hok hc;refine⟨(WD hok).1,bU hok hc,?_,i4,λi _=>Lz (P:=λo=>o.hn<=1048576) (AA ho.1 Zb) i5 i,λi _=>?_⟩;.show(Cd B x.rs k).hn-Ck (Cd B x.rs k)+1<=200;have:=hok.hn;unfold Ck;split<;>omega
  .show(tW (Cd B x.rs k) (Dc (Cd B x.rs k) (x.rs k)) i).ob.hn<=_;unfold tW;split;.exact i6 _ Za
   .show(C7 (Cd B x.rs k) (x.rs k)).hn<=_;omega
end Go.Proofs.YtllmmkchokkaaaaGreatDoor
