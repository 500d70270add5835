import Derived.Test.YtdknjmgdgnmhjaaGreatPk18
set_option maxRecDepth 100000
namespace Go.Proofs.YtdknjmgdgnmhjaaGreat
open Go.RowKit Go.Proofs.Tryz
variable {y o:Ob}{n k:Nat}{s:Nat→ByteArray}{a b:ByteArray}{B:Bk}{v:Wr}{p:Nat→Bool}
/-! a write keeps what a write wants -/
theorem Yn (h:DY y o=false)(hk:¬(y.k.toList=o.k.toList/\y.n.toList=o.n.toList)):DY o y=true:=by
 unfold DY at h⊢;by_cases e:y.k.toList=o.k.toList;.rw[if_pos e]at h;rw[if_pos e.symm];exact QG h (λq=>hk ⟨e,by rw[q]⟩)
 .rw[if_neg e]at h;rw[if_neg (λq=>e q.symm)];exact QG h (λq=>e (by rw[q]))
theorem yA{z:Ob}(h1:y.k.toList=o.k.toList)(h2:y.n.toList=o.n.toList)(h:DY y z=true):DY o z=true:=by unfold DY Gt at h⊢;rw[<-h1,<-h2];exact h
def PwO (l:List Ob):Prop:=l.Pairwise λa b=>DY a b=true
theorem Vv{x:Nat->Ob}:WS n x↔PwO (Fb n x):=by
 unfold PwO Fb;rw[List.pairwise_iff_getElem];constructor;.intro h i j hi hj P4;simp only[List.length_map,List.length_range]at hi hj;simpa using h i j P4 hj
 .intro h i j P4 hj;have:=h i j Zd Zd P4;simpa using this
theorem Yf (o:Ob):∀(l:List Ob)(z:Ob),z∈Ih o l->z=o\/z∈l
 |[],z,h=>AA (by simpa[Ih]using h)
 |y::r,z,h=>by
  unfold Ih at h;split at h
  .rcases CU.1 h with rfl|h;.exact Az (JO)
   .rcases Yf o r z h with e|e;.exact AA e
    .exact Az (IB _ e)
  .rcases CU.1 h with rfl|h;.exact AA rfl
   .exact Az (DS.1 h).1
theorem eV (o:Ob):∀l:List Ob,PwO l->PwO (Ih o l)
 |[],_=>by simp[PwO,Ih]
 |y::r,h=>by
  have hr:=Nl.1 h;unfold Ih;split
  .rename_i hy;refine Nl.2 ⟨λz hz=>?_,eV o r hr.2⟩;rcases Yf o r z hz with rfl|e;.exact hy
   .exact hr.1 z e
  .rename_i hy;have hy':DY y o=false:=by simpa using hy
   refine Nl.2 ⟨λz hz=>?_,List.Pairwise.filter _ h⟩;obtain⟨C7,Fk⟩:=DS.1 hz;have hzk:¬(z.k.toList=o.k.toList/\z.n.toList=o.n.toList):=λe=>by have:ET z o=0:=(K4 _ _).2 e;unfold CV at Fk;simp[this]at Fk
   rcases CU.1 C7 with rfl|e;.exact Yn hy' hzk
   .have h1:=hr.1 z e;by_cases hk:y.k.toList=o.k.toList/\y.n.toList=o.n.toList;.exact yA hk.1 hk.2 h1
    .exact Rv (Yn hy' hk) h1
theorem eZ{g:Bool}{l:List Ob}(h:PwO l):PwO (K3 o g l):=by
 unfold K3;split;.exact List.Pairwise.filter _ h
 .exact eV o l h
theorem XG (o:Ob):∀l:List Ob,(∃y,y∈l/\ET y o=0)->(Ih o l).length<=l.length
 |[],h=>by obtain⟨y,hy,_⟩:=h;cases hy
 |y::r,h=>by
  unfold Ih;split
  .rename_i hy;have:∃z,z∈r/\ET z o=0:=by
    obtain⟨z,hz,hk⟩:=h;rcases CU.1 hz with rfl|e;.have e:=(K4 _ _).1 hk;rw[wA e.1 e.2]at hy;cases hy
    .exact⟨z,e,hk⟩
   have:=XG o r this;simp only[CT];omega
  .have:((y::r).filter (CV o)).length<(y::r).length:=by rw[List.length_filter_lt_length_iff_exists];obtain⟨z,hz,hk⟩:=h;exact⟨z,hz,by simp[CV,hk]⟩
   simp only[CT]at this⊢;omega
theorem Acj (h:Kl n s)(hn:K1 n s a=false):Kl (n+1) (Qb s (Gu s a n) a):=by
 obtain⟨g1,g2,g3⟩:=Kz s a n;have CF:∀i,i<n->¬s i=a:=λi hi e=>by rw[RE hi e]at hn;cases hn
 intro i j P4 hj;unfold Qb;rcases KE i (Gu s a n)with h1|h1|h1
 .rw[if_pos h1];rcases KE j (Gu s a n)with h2|h2|h2;.rw[if_pos h2];exact h i j P4 Za
  .rw[if_neg Za,if_pos h2];exact g2 i h1
  .rw[if_neg Za,if_neg Za];exact h i (j-1) Za Za
 .rw[if_neg Za,if_pos h1,if_neg Za,if_neg Za];have hk:Gu s a n<n:=Za;have h3:=QG (g3 hk) (CF _ hk);rcases AD (Gu s a n) (j-1)with h4|h4;.exact K5 h3 (h _ _ h4 Za)
  .rw[show j-1=Gu s a n by omega];exact h3
 .rw[if_neg Za,if_neg Za,if_neg Za,if_neg Za];exact h (i-1) (j-1) Za Za
theorem Abg (h:Kl n s):Kl (n-1) (Lp s k):=by
 intro i j P4 hj;unfold Lp;by_cases h1:i<k
 .rw[if_pos h1];by_cases h2:j<k;.rw[if_pos h2];exact h i j P4 Za
  .rw[if_neg h2];exact h i (j+1) Za Za
 .rw[if_neg h1,if_neg Za];exact h (i+1) (j+1) Za Za
theorem KZ (hc:B8 B v=0):DE B v=0/\B.v<1000000:=by
 unfold B8 at hc;split at hc
 .rename_i h;refine⟨h,?_⟩;split at hc;.cases hc
  .omega
 .rename_i h;exact absurd hc h
theorem Xg (Cj:LW B v)(hc:B8 B v=0):(CL B v).hn<=5/\Kl (CL B v).hn (CL B v).hs:=by
 obtain⟨h1,h2,_⟩:=ZS Cj;have h0:=(KZ hc).1;unfold DE at h0;split at h0;.cases h0
 split at h0;.cases h0
 split at h0;.cases h0
 unfold CL KX;by_cases e1:v.op=1;.rw[if_pos e1];refine⟨by dsimp only;split<;>omega,λi j h3 h4=>?_⟩;dsimp only at h4;split at h4<;>omega
 .rw[if_neg e1];rw[if_neg e1]at h0;by_cases e2:v.op=2;.rw[if_pos e2];exact⟨h1,h2⟩
  .rw[if_neg e2];by_cases e3:v.op=3;.rw[if_pos e3];exact⟨h1,h2⟩
   .rw[if_neg e3];by_cases e4:v.op=4
    .rw[if_pos e4];rw[if_pos e4]at h0;split at h0;.cases h0
     .rename_i hh;split at h0;.cases h0
      .refine⟨by dsimp only;omega,Acj h2 (by simpa using hh)⟩
    .rw[if_neg e4];exact⟨by dsimp only;omega,Abg h2⟩
theorem Mh (B:Bk)(v:Wr):Fb (Jd B v).on (Jd B v).os=K3 (CL B v) (Dl B v) (Fb B.on B.os):=N9 _ _ _ _
theorem yH (Cj:LW B v)(hc:B8 B v=0):(Jd B v).on<=100:=by
 have hl:(Jd B v).on=(K3 (CL B v) (Dl B v) (Fb B.on B.os)).length:=by rw[<-Mh,GE]
 have NA:=Cj.on;cases hf:CC B.os v.k v.n B.on with
 |true=>
  rw[hl];unfold K3;split;.have:=D0 (CV (CL B v)) (Fb B.on B.os);rw[GE]at this;omega
  .obtain⟨k1,k2⟩:=tc (Yi hc);have:∃y,y∈Fb B.on B.os/\ET y (CL B v)=0:=by unfold CC at hf;cases hx:LP B.os v.k v.n B.on with
    |none=>rw[hx]at hf;cases hf
    |some i=>obtain⟨q1,q2,q3⟩:=MZ hx;refine⟨B.os i,by unfold Fb;exact Ec.2 ⟨i,by simpa using q1,rfl⟩,(K4 _ _).2 ?_⟩;rw[k1,k2,q2,q3];exact⟨rfl,rfl⟩
   have:=XG (CL B v) _ this;rw[GE]at this;omega
 |false=>
  have h1:v.op=1:=by
   rcases Yi hc with h|h;.rw[h]at hf;cases hf
   .exact h
  have h0:=(KZ hc).1;unfold DE at h0;split at h0;.cases h0
  split at h0;.cases h0
  split at h0;.cases h0
  split at h0;.cases h0
  .have:=Uj B.on B.os (CL B v) (Dl B v);have e:(Jd B v).on=(DH B.on B.os (CL B v) (Dl B v)).m:=rfl;omega
theorem gj{v':Wr}(Cj:LW B v)(hc:B8 B v=0)(hw:N7 v'=true)(wf:Q7 v'):LW (Jd B v) v':=by
 have h0:=Cj.now0;have h1:=(KZ hc).2;refine⟨(UL Cj).1,?_,?_,yH Cj hc,?_,?_,λi _=>?_,hw,wf⟩;.show 0<=B.v+1;omega
 .show B.v+1<=1000000;omega
 .show B.hn-JH B+1<=200;have:=Cj.hn;unfold JH;split<;>omega
 .rw[Vv,Mh];exact eZ (Vv.1 Cj.asc)
 .exact Sf (P:=λo=>o.hn<=5/\Kl o.hn o.hs) (Xg Cj hc) Cj.hold i
def Du (B:Bk)(x:Nat->Wr):Nat->Bk
 |0=>B
 |k+1=>Jd (Du B x k) (x k)
def ND (p:Nat->Bool):Nat->Nat
 |0=>0
 |n+1=>if ND p n<n then ND p n else if p n then n+1 else n
theorem QF (p:Nat->Bool):∀n,ND p n<=n/\(∀j,j<ND p n->p j=true)/\(ND p n<n->p (ND p n)=false)
 |0=>⟨AG _,λj hj=>absurd hj (Ae _),λh=>absurd h (Ae _)⟩
 |n+1=>by
  obtain⟨h1,h2,h3⟩:=QF p n;unfold ND;split;.rename_i h;exact⟨Za,h2,λ_=>h3 h⟩
  .rename_i h;have e:ND p n=n:=Za;rw[e]at h2;split
   .rename_i hp;refine⟨AG _,λj hj=>?_,λq=>absurd q (Bc _)⟩;rcases AD j n with q|q;.exact h2 j q
    .obtain rfl:j=n:=Za;exact hp
   .rename_i hp;exact⟨Za,h2,λ_=>by simpa using hp⟩
theorem dI (hk:k<n)(h:∀j,j<k->p j=true)(hp:p k=false):ND p n=k:=by
 obtain⟨h1,h2,h3⟩:=QF p n;rcases KE (ND p n) k with q|q|q;.have:=h3 Za;rw[h _ q]at this;cases this
 .exact q
 .have:=h2 k q;rw[hp]at this;cases this
theorem Rj (h:∀j,j<n->p j=true):ND p n=n:=by
 obtain⟨h1,h2,h3⟩:=QF p n;rcases AD (ND p n) n with q|q;.have:=h3 q;rw[h _ q]at this;cases this
 .omega
def ZY (x:Wt):Bool:=Cc x.k&&(Cc x.n&&decide (0<=x.t))
def Ql (x:Bu):Bool:=decide (x.wn<=10)&&(decide (x.rn<=10)&&(Bj (λi=>ZY (x.ws i)) x.wn&&Bj (λi=>N7 (x.rs i)) x.rn))
def UJ (B:Bk)(x:Wt):Bool:=decide ((Ck B.os x.k x.n B.on).t=x.t)
def Vs (B:Bk)(x:Bu)(k:Nat):Bool:=decide (B8 (Du B x.rs k) (x.rs k)=0)
def wX (B:Bk)(x:Bu):Nat:=ND (λi=>UJ B (x.ws i)) x.wn
def YR (B:Bk)(x:Bu):Nat:=ND (Vs B x) x.rn
def CM (B:Bk)(x:Bu):Int:=if wX B x<x.wn then 9 else if YR B x<x.rn then B8 (Du B x.rs (YR B x)) (x.rs (YR B x))else 0
def BV (B:Bk)(x:Bu):Bk:=if wX B x<x.wn\/YR B x<x.rn then B else Du B x.rs x.rn
def Dc (B:Bk)(x:Bu):Int:=if wX B x<x.wn\/YR B x<x.rn then 0 else(Du B x.rs x.rn).v
def WR (B:Bk)(x:Bu):Nat:=if wX B x<x.wn then wX B x else if YR B x<x.rn then YR B x else 0
structure Xm (x:Bu):Prop where
 wn:x.wn<=10
 rn:x.rn<=10
 ws:∀i,i<x.wn->ZY (x.ws i)=true
 rs:∀i,i<x.rn->N7 (x.rs i)=true
theorem Kg{x:Bu}(h:Ql x=true):Xm x:=by unfold Ql at h;simp only[As,decide_eq_true_eq,AS]at h;exact⟨h.1,h.2.1,h.2.2.1,h.2.2.2⟩
theorem Z4{B:Bk}{x:Bu}(hf:BS B)(hv:Bj (ID B) 7=true)(hu:MM x)(hb:Xm x):∀k,k<x.rn->(∀j,j<k->Vs B x j=true)->LW (Du B x.rs k) (x.rs k)
 |0,h0,_=>ZF hf hv (hb.rs 0 h0) (hu.rs 0 h0)
 |k+1,h0,h=>gj (Z4 hf hv hu hb k Za (λj hj=>h j Za)) (of_decide_eq_true (h k Za)) (hb.rs _ h0) (hu.rs _ h0)
def jO (x:Int)(b:UInt8):Int:=IntKind.u64.wrap (bits BinOp.xor IntKind.u64 x (IntKind.u64.wrap (b.toNat:Int))*1099511628211)
def OP (x:Int)(l:List UInt8):Int:=l.foldl jO x
theorem Q9 (x:Int)(l m:List UInt8):OP x (l++m)=OP (OP x l) m:=List.foldl_append
theorem jE (x:Int)(s:ByteArray)(k:Nat)(h:k<s.size):OP x (s.data.toList.take (k+1))=jO (OP x (s.data.toList.take k)) s[k]:=by
 have h':k<s.data.toList.length:=by simpa using h
 rw[List.take_succ_eq_append_getElem h',Q9];rfl
def kM (v:Int)(i:Nat):Int:=v/2^(8*i)%256
def Mq (v:Int)(i:Nat):UInt8:=UInt8.ofNat (kM v i).toNat
def LF (v:Int):List UInt8:=[Mq v 7,Mq v 6,Mq v 5,Mq v 4,Mq v 3,Mq v 2,Mq v 1,Mq v 0]
theorem Ki (v:Int)(i:Nat):((Mq v i).toNat:Int)=kM v i:=by have h1:0<=kM v i:=Int.emod_nonneg _ Zb;have h2:kM v i<256:=Int.emod_lt_of_pos _ Zb;unfold Mq;rw[UInt8.toNat_ofNat'];omega
theorem yK (h:a.data.toList=b.data.toList):a=b:=by cases a;cases b;simpa using h
theorem JI (xs:List ByteArray):(LY xs).data.toList=NT xs++[10]:=by simp[LY]
theorem jN (s k n d:ByteArray):s++(⟨#[119,97,110,116,32]⟩:ByteArray)++k++(⟨#[32]⟩:ByteArray)++n++(⟨#[32]⟩:ByteArray)++d++(⟨#[10]⟩:ByteArray)=s++LY [⟨#[119,97,110,116]⟩,k,n,d]:=by apply yK;simp[JI,NT,Lib.join]
theorem aU (s o k n v t h:ByteArray):s++(⟨#[119,114,105,116,101,32]⟩:ByteArray)++o++(⟨#[32]⟩:ByteArray)++k++(⟨#[32]⟩:ByteArray)++n++(⟨#[32]⟩:ByteArray)++v++(⟨#[32]⟩:ByteArray)++t++(⟨#[32]⟩:ByteArray)++h++(⟨#[10]⟩:ByteArray)=s++LY [⟨#[119,114,105,116,101]⟩,o,k,n,v,t,h]:=by apply yK;simp[JI,NT,Lib.join]
def DZ (n:Int):ByteArray:=⟨(Lib.decDigits n.toNat).toArray⟩
def NI (x:Wt):ByteArray:=LY [⟨#[119,97,110,116]⟩,x.k,x.n,DZ x.t]
def NO (x:Wr):ByteArray:=LY [⟨#[119,114,105,116,101]⟩,DZ x.op,x.k,x.n,DZ x.s,⟨(YM x.m).toArray⟩,x.hold]
def cU (u:Bu):Nat->ByteArray
 |0=>⟨#[]⟩
 |k+1=>cU u k++NI (u.ws k)
def iG (u:Bu):Nat->ByteArray
 |0=>cU u u.wn
 |k+1=>iG u k++NO (u.rs k)
def smW (u:Bu):Nat->Int
 |0=>14695981039346656037
 |k+1=>OP (smW u k) (NI (u.ws k)).data.toList
def smR (u:Bu):Nat->Int
 |0=>smW u u.wn
 |k+1=>OP (smR u k) (NO (u.rs k)).data.toList
theorem Ac1 (u:Bu)(k:Nat):smW u k=OP 14695981039346656037 (cU u k).data.toList:=by induction k with
 |zero=>rfl
 |succ k ih=>
  have e:(cU u (k+1)).data.toList=(cU u k).data.toList++(NI (u.ws k)).data.toList:=by simp[cU]
  rw[e,Q9,<-ih];rfl
theorem wS (u:Bu)(k:Nat):smR u k=OP 14695981039346656037 (iG u k).data.toList:=by induction k with
 |zero=>exact Ac1 u u.wn
 |succ k ih=>
  have e:(iG u (k+1)).data.toList=(iG u k).data.toList++(NO (u.rs k)).data.toList:=by simp[iG]
  rw[e,Q9,<-ih];rfl
theorem yW (y:Int):IntKind.u64.wrap y=y%18446744073709551616:=by unfold IntKind.wrap;simp[IntKind.signed,IntKind.bits]
theorem eE (x:Int)(b:UInt8):0<=jO x b/\jO x b<18446744073709551616:=by unfold jO;rw[yW];exact⟨Int.emod_nonneg _ Zb,Int.emod_lt_of_pos _ Zb⟩
theorem qv (l:List UInt8):∀(x:Int),0<=x->x<18446744073709551616->0<=OP x l/\OP x l<18446744073709551616:=by induction l with
 |nil=>exact λx h0 h1=>⟨h0,h1⟩
 |cons b l ih=>exact λx _ _=>ih (jO x b) (eE x b).1 (eE x b).2
theorem Abq (u:Bu)(k:Nat):0<=smR u k/\smR u k<18446744073709551616:=by rw[wS];exact qv _ _ Zb Zb
def M6 (u:Bu):ByteArray:=⟨(LF (smR u u.rn)).toArray⟩
structure Ca where
 c:ByteArray
 num:Int
 bu:Bu
abbrev vC (x:Ca)(a b:OA)(d e:Nat):Array Value:=#[.s x.c,.i x.num,.l a x.bu.wn d,.l b x.bu.rn e]
abbrev vCl (x:Ca)(a b:OA)(d e:Nat):List Value:=[.s x.c,.i x.num,.l a x.bu.wn d,.l b x.bu.rn e]
structure Sa where
 code:Int
 t:Int
 again:Bool
abbrev vS (x:Sa):Array Value:=#[.i x.code,.i x.t,.bool x.again]
abbrev vSl (x:Sa):List Value:=[.i x.code,.i x.t,.bool x.again]
def dB (c:Ca):Bool:=Cc c.c&&G6 c.num 1 1000000
structure TF (u:Bu):Prop where
 w:∀i,i<u.wn->(u.ws i).t<=9223372036854775807
 r:∀i,i<u.rn->(u.rs i).s<=9223372036854775807
structure Xl (c:Ca):Prop where
 n:(c.c.size:Int)<=140737488355328
 u:MM c.bu
 i:TF c.bu
def OZ (B:Bk)(cl:ByteArray):Ti:=B.ts (Eb B cl)
def NX (B:Bk)(c:Ca):Ti:=⟨c.c,c.num,M6 c.bu,CM B c.bu,Dc B c.bu⟩
def Lv (x:Nat->Ti)(k:Nat)(is:Bool)(t:Ti):Nat->Ti:=λi=>if i<k then x i else if i=k then t else x (if is then i else i-1)
def Qk (B:Bk)(c:Ca):Bool:=if Jz B c.c then decide ((OZ B c.c).num<c.num)else decide (B.tn<50)
def LM (B:Bk)(c:Ca):Bk:={BV B c.bu with tn:=if Jz B c.c then B.tn else B.tn+1,ts:=Lv B.ts (Eb B c.c) (Jz B c.c) (NX B c)}
def I1 (B:Bk)(c:Ca):Sa:=if dB c=false then⟨1,0,false⟩else if Ql c.bu=false then⟨2,0,false⟩else if Qk B c=true then⟨CM B c.bu,Dc B c.bu,false⟩else if Jz B c.c=false then⟨6,0,false⟩else if c.num<(OZ B c.c).num then⟨8,0,false⟩else if M6 c.bu=(OZ B c.c).print then⟨(OZ B c.c).code,(OZ B c.c).t,true⟩else⟨7,0,false⟩
def H5 (B:Bk)(c:Ca):Bk:=if dB c=true/\Ql c.bu=true/\Qk B c=true then LM B c else B
theorem gV (B:Bk)(v:Wr):¬B8 B v=2:=by
 unfold B8 DE;repeat' split
 all_goals decide
theorem jC (B:Bk)(x:Bu):¬CM B x=2:=by
 unfold CM;split;.decide
 .split;.exact gV _ _
  .decide
theorem Ada (hv:Bj (ID B) 7=true):Iz B.tn B.ts B.v=true:=by rw[AS]at hv;exact hv 6 Za
theorem Yh (hv:Bj (ID B) 7=true):B.tn<=50:=by have h:=Ada hv;unfold Iz at h;rw[As]at h;exact of_decide_eq_true h.1
theorem RN (B:Bk)(cl:ByteArray):Eb B cl<=B.tn:=(Kz _ _ _).1
theorem JE{s:ByteArray}(h:Cc s=true):s.size<=20:=by unfold Cc G6 at h;simp only[As,decide_eq_true_eq]at h;have:=h.1.2;omega
def G5 (x:Nat->Ti)(j:Nat):Value:=match j%5 with|0=>.s (x (j/5)).c|1=>.i (x (j/5)).num|2=>.s (x (j/5)).print|3=>.i (x (j/5)).code|_=>.i (x (j/5)).t
theorem Vi (x:Nat->Ti)(i:Nat):G5 x (i*5)=.s (x i).c/\G5 x (i*5+1)=.i (x i).num/\G5 x (i*5+2)=.s (x i).print/\G5 x (i*5+3)=.i (x i).code/\G5 x (i*5+4)=.i (x i).t:=by
 have e:∀r,r<5->(i*5+r)%5=r/\(i*5+r)/5=i:=λr hr=>⟨Za,Za⟩;unfold G5;refine⟨?_,?_,?_,?_,?_⟩;.rw[show(i*5)%5=0 by omega,show(i*5)/5=i by omega];rfl
 .rw[(e 1 Za).1,(e 1 Za).2];rfl
 .rw[(e 2 Za).1,(e 2 Za).2];rfl
 .rw[(e 3 Za).1,(e 3 Za).2];rfl
 .rw[(e 4 Za).1,(e 4 Za).2];rfl
theorem Jl (x:Nat->Ti)(j:Nat):(G5 x j).oneCell'=true:=by unfold G5;split<;>rfl
theorem fE (x:Nat->Ti)(y:Nat->Ti)(k:Nat)(z:Nat->Ti)(hz:∀i,z i=if i<k then x i else y (i-k))(j:Nat):(if j<k*5 then G5 x j else G5 y (j-k*5))=G5 z j:=by
 have h:=hz (j/5);unfold G5;by_cases hj:j<k*5;.rw[if_pos hj,h,if_pos Za]
 .rw[if_neg hj,h,if_neg Za,show(j-k*5)%5=j%5 by omega,show(j-k*5)/5=j/5-k by omega]
end Go.Proofs.YtdknjmgdgnmhjaaGreat
