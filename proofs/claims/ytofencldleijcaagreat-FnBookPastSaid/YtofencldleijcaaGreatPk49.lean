import Derived.Test.YtofencldleijcaaGreatPk35
import Derived.Test.YtofencldleijcaaGreatPk15
import Derived.Test.YtofencldleijcaaGreatPk43
set_option maxRecDepth 100000
namespace Go.Proofs.YtofencldleijcaaGreat
open Go.RowKit Go.Maps Go.Proofs.Tryz
def GI (o:Ob):Ob:={o with hs:=λi=>if i<o.hn then o.hs i else ByteArray.empty}
theorem Lf{x z:Ob}(h:BT x z=true):GI x=GI z:=by
 obtain⟨k,n,v,b,t,e,hn,hs⟩:=x;obtain⟨k',n',v',b',t',e',hn',hs'⟩:=z;simp only[BT,QO,Ak,decide_eq_true_eq,AC]at h;obtain⟨rfl,rfl,rfl,rfl,rfl,rfl,rfl,h⟩:=h;simp only[GI,Ob.mk.injEq,true_and];funext i;by_cases hi:i<hn;.rw[if_pos hi,if_pos hi,h i hi]
 .rw[if_neg hi,if_neg hi]
def Uh (B:Bk)(kv:Nat)(o:Ob):Prop:=match CM B.hs o.kind o.name kv with
 |some j=>(B.hs j).gone=false/\o=GI (B.hs j).ob
 |none=>∃i,i<B.on/\(B.os i).ver<=B.floor/\o=GI (B.os i)
theorem Hx{B:Bk}{kv j:Nat}{o:Ob}(h:CM B.hs o.kind o.name kv=some j):Uh B kv o↔(B.hs j).gone=false/\o=GI (B.hs j).ob:=by unfold Uh;rw[h]
theorem Gv{B:Bk}{kv:Nat}{o:Ob}(h:CM B.hs o.kind o.name kv=none):Uh B kv o↔∃i,i<B.on/\(B.os i).ver<=B.floor/\o=GI (B.os i):=by unfold Uh;rw[h]
def Tb (B:Bk)(kv:Nat):Prop:=∀j,kv<=j->j<B.hn->CM B.hs (B.hs j).ob.kind (B.hs j).ob.name j=none->FK (B.hs j)=true
theorem J4{h:Nat->Ch}{a b:ByteArray}{m j:Nat}(e:CM h a b m=some j):∀{n:Nat},m<=n->∃j',CM h a b n=some j'/\j<=j'
 |0,hm=>by obtain rfl:m=0:=Zb;cases e
 |n+1,hm=>by
  by_cases hk:(h n).ob.kind=a/\(h n).ob.name=b;.exact⟨n,Fb hk,by have:=(DZ e).1;omega⟩
  .rw[ES hk];by_cases hmn:m=n+1;.subst hmn;rw[ES hk]at e;exact⟨j,e,Az _⟩
   .exact J4 e Zb
theorem L5{h:Nat->Ch}{a b:ByteArray}{m n:Nat}(e:CM h a b n=none)(hm:m<=n):CM h a b m=none:=by cases e2:CM h a b m with
 |none=>rfl
 |some j=>obtain⟨j',q,_⟩:=J4 e2 hm;rw[e]at q;cases q
theorem Pj{h:Nat->Ch}{a b:ByteArray}{m:Nat}:∀{n:Nat},CM h a b m=none->¬CM h a b n=none->∃j,m<=j/\j<n/\((h j).ob.kind=a/\(h j).ob.name=b)/\CM h a b j=none
 |0,_,h2=>absurd rfl h2
 |n+1,h1,h2=>by
  by_cases hn:CM h a b n=none
  .by_cases hk:(h n).ob.kind=a/\(h n).ob.name=b
   .refine⟨n,?_,Bj _,hk,hn⟩;rcases At n m with q|q
    .have:=L5 h1 (show n+1<=m by omega);rw[Fb hk]at this;cases this
    .exact q
   .rw[ES hk]at h2;exact absurd hn h2
  .obtain⟨j,a1,a2,a3⟩:=Pj h1 hn;exact⟨j,a1,Zb,a3⟩
theorem aE{B:Bk}(h:VB B)(o:Ob):Uh B B.hn o↔∃i,i<B.on/\o=GI (B.os i):=by cases e:CM B.hs o.kind o.name B.hn with
 |none=>
  rw[Gv e];constructor;.rintro⟨i,hi,_,rfl⟩;exact⟨i,hi,rfl⟩
  .rintro⟨i,hi,rfl⟩;have a:=h.agO i hi;unfold agO at a;rw[show CM B.hs (B.os i).kind (B.os i).name B.hn=none from e]at a;exact⟨i,hi,by simpa using a,rfl⟩
 |some j=>
  rw[Hx e];obtain⟨hj,k1,k2⟩:=DZ e;constructor;.rintro⟨hg,rfl⟩;have a:=h.agH j hj;unfold agH at a;rw[show CM B.hs (B.hs j).ob.kind (B.hs j).ob.name B.hn=some j from e,hg]at a;simp only[decide_true,Bool.not_true,Bool.false_or]at a;obtain⟨i,hi⟩:=Hb.1 a;obtain⟨i1,i2,i3⟩:=Ju hi;have b:=h.agO i i1;unfold agO at b;rw[i2,i3,show CM B.hs (B.hs j).ob.kind (B.hs j).ob.name B.hn=some j from e]at b;simp only[Ak]at b;exact⟨i,i1,(Lf b.2).symm⟩
  .rintro⟨i,hi,rfl⟩;have b:=h.agO i hi;unfold agO at b;rw[show CM B.hs (B.os i).kind (B.os i).name B.hn=some j from e]at b;simp only[Ak,FY]at b;exact⟨b.1,Lf b.2⟩
theorem M6{B:Bk}(h:VB B){i j:Nat}(hi:i<B.on)(e:CM B.hs (B.os i).kind (B.os i).name B.hn=some j):(B.os i).ver=B.floor+1+j:=by have b:=h.agO i hi;unfold agO at b;rw[e]at b;simp only[Ak]at b;have hj:=(DZ e).1;have v:=Rz b.2;have c:=h.chg j hj;unfold E5 at c;simp only[Ak,beq_iff_eq]at c;rw[v,c.1,h.ver j hj]
theorem Wv{B:Bk}(h:VB B)(h1:1<=B.hn){kv:Nat}(hk:1<=kv)(hkn:kv<=B.hn)(ha:Tb (D1 B) (kv-1)):Tb B kv/\∀o,Uh (D1 B) (kv-1) o↔Uh B kv o:=by
 have hv0:(B.hs 0).ver=B.floor+1:=by have:=h.ver 0 Zb;omega
 have sh:∀a b n,CM (D1 B).hs a b n=match CM B.hs a b (n+1)with|some (j+1)=>some j|_=>none:=λa b n=>LC B.hs a b n;obtain⟨k,rfl⟩:∃k,kv=k+1:=⟨kv-1,Zb⟩;rw[Eu]at ha⊢;have hdn:(D1 B).hn=B.hn-1:=rfl;have hfl:(D1 B).floor=B.floor+1:=hv0;refine⟨λj hj hjn hl=>?_,λo=>?_⟩;.obtain⟨j',rfl⟩:∃j',j=j'+1:=⟨j-1,Zb⟩;exact ha j' Zb Zb (by rw[sh];show(match CM B.hs (B.hs (j'+1)).ob.kind (B.hs (j'+1)).ob.name (j'+1)with|some (j+1)=>some j|_=>none)=none;rw[hl])
 .cases e:CM B.hs o.kind o.name (k+1)with
  |some j=>rw[Hx e];cases j with
   |succ j'=>
    have e2:CM (D1 B).hs o.kind o.name k=some j':=by rw[sh,e]
    rw[Hx e2];exact Iff.rfl
   |zero=>
    have e2:CM (D1 B).hs o.kind o.name k=none:=by rw[sh,e]
    rw[Gv e2];obtain⟨_,k1,k2⟩:=DZ e;obtain⟨j',f1,f2⟩:=J4 e hkn;by_cases hl:CM (D1 B).hs o.kind o.name (D1 B).hn=none;.-- it is the only one
     have f3:CM B.hs o.kind o.name B.hn=some 0:=by have q:=sh o.kind o.name (B.hn-1);rw[show B.hn-1+1=B.hn by omega,f1]at q;rw[hdn,q]at hl;cases j' with
      |zero=>exact f1
      |succ j''=>cases hl
     constructor;.rintro⟨i,hi,hvi,rfl⟩;have b:=h.agO i hi;unfold agO at b;rw[show CM B.hs (B.os i).kind (B.os i).name B.hn=some 0 from f3]at b;simp only[Ak,FY]at b;exact⟨b.1,Lf b.2⟩
     .rintro⟨hg,ho⟩;have a:=h.agH 0 Zb;unfold agH at a;rw[k1,k2,f3,hg]at a;simp only[decide_true,Bool.not_true,Bool.false_or]at a;obtain⟨i,hi⟩:=Hb.1 a;obtain⟨i1,i2,i3⟩:=Ju hi;have f4:CM B.hs (B.os i).kind (B.os i).name B.hn=some 0:=by rw[i2,i3];exact f3
      have b:=h.agO i i1;unfold agO at b;rw[f4]at b;simp only[Ak]at b;have v:=M6 h i1 f4;exact⟨i,i1,by rw[hfl];show(B.os i).ver<=B.floor+1;omega,ho.trans (Lf b.2).symm⟩
    .-- a later one is the first of what is left: it makes it anew
     obtain⟨m,m1,m2,m3,m4⟩:=Pj e2 hl;have c:=ha m m1 m2 (by rw[m3.1,m3.2];exact m4);have mb:m+1<B.hn:=Zb;have l0:CM B.hs o.kind o.name (m+1)=some 0:=by obtain⟨q,q1,q2⟩:=J4 e (show k+1<=m+1 by omega);have r:=sh o.kind o.name m;rw[m4,q1]at r;cases q with
      |zero=>exact q1
      |succ q'=>cases r
     have lv:=h.liv (m+1) mb;unfold Gj at lv;have m3':(B.hs (m+1)).ob.kind=o.kind/\(B.hs (m+1)).ob.name=o.name:=m3;have c':FK (B.hs (m+1))=true:=c;rw[m3'.1,m3'.2,l0]at lv;simp only[Gf,c',Bool.or_true,if_true,Bool.and_true]at lv;constructor
     .rintro⟨i,hi,hvi,rfl⟩;obtain⟨q,q1,q2⟩:=J4 l0 (show m+1<=B.hn by omega);have q1':CM B.hs (B.os i).kind (B.os i).name B.hn=some q:=q1;have v:=M6 h hi q1';rw[hfl]at hvi;have:¬q=0:=λe0=>by subst e0;have r:=sh (GI (B.os i)).kind (GI (B.os i)).name (B.hn-1);rw[show B.hn-1+1=B.hn by omega,show CM B.hs (GI (B.os i)).kind (GI (B.os i)).name B.hn=some 0 from q1]at r;exact hl r
      have hvi':(B.os i).ver<=B.floor+1:=hvi;omega
     .rintro⟨hg,_⟩;rw[lv]at hg;cases hg
  |none=>
   have e2:CM (D1 B).hs o.kind o.name k=none:=by rw[sh,e]
   rw[Gv e,Gv e2];constructor;.rintro⟨i,hi,hvi,rfl⟩;refine⟨i,hi,?_,rfl⟩;rw[hfl]at hvi;have hvi':(B.os i).ver<=B.floor+1:=hvi;cases f:CM B.hs (B.os i).kind (B.os i).name B.hn with
    |none=>have a:=h.agO i hi;unfold agO at a;rw[f]at a;simpa using a
    |some j=>have v:=M6 h hi f;obtain rfl:j=0:=Zb;obtain⟨_,k1,k2⟩:=DZ f;obtain⟨i',q⟩:∃i',CM B.hs (B.hs 0).ob.kind (B.hs 0).ob.name (k+1)=some i':=NR Zb;rw[k1,k2]at q;have e':CM B.hs (B.os i).kind (B.os i).name (k+1)=none:=e;rw[e']at q;cases q
   .rintro⟨i,hi,hvi,rfl⟩;exact⟨i,hi,by rw[hfl];show(B.os i).ver<=B.floor+1;omega,rfl⟩
theorem Uj{B:Bk}{c:Ch}{m:Nat}{y:Nat->Ob}(h:VB B)(a:Wn B c m y)(h':VB (E6 B c m y))(hnew:FK c=true->∀i,i<B.on->¬MA (B.os i) c.ob){kv:Nat}(hk:kv<=B.hn)(ha:Tb (E6 B c m y) kv):Tb B kv/\∀o,Uh (E6 B c m y) kv o↔Uh B kv o:=by
 have hh:∀i,i<B.hn->(E6 B c m y).hs i=B.hs i:=λi hi=>if_pos hi;have hc:(E6 B c m y).hs B.hn=c:=if_neg (AJ _);have hl:∀p q k,k<=B.hn->CM (E6 B c m y).hs p q k=CM B.hs p q k:=λp q k hk=>N4 λi hi=>hh i Zb;have hcv:c.ob.ver=B.now+1:=by have q:=h'.chg B.hn (Bj _);have v:=h'.ver B.hn (Bj _);rw[hc]at q v;unfold E5 at q;simp only[Ak,beq_iff_eq]at q;have w:c.ver=B.floor+1+(B.hn:Int):=v;have:=h.hnow;rw[q.1,w];omega
 refine⟨λj hj hjn e=>?_,λo=>?_⟩;.have q:=ha j hj (Nat.lt_succ_of_lt hjn);rw[hh j hjn,hl _ _ _ Zb]at q;exact q e
 .cases e:CM B.hs o.kind o.name kv with
  |some j=>have e2:CM (E6 B c m y).hs o.kind o.name kv=some j:=(hl _ _ _ hk).trans e;rw[Hx e,Hx e2,hh j (by have:=(DZ e).1;omega)]
  |none=>
   have e2:CM (E6 B c m y).hs o.kind o.name kv=none:=(hl _ _ _ hk).trans e;rw[Gv e,Gv e2];constructor
   .rintro⟨i,hi,hvi,rfl⟩;have hvi':(y i).ver<=B.floor:=hvi;rcases a.from_ i hi with⟨q1,_⟩|⟨j,q1,q2,_⟩;.rw[q1,hcv]at hvi';have:=h.n1;omega
    .rw[q2]at hvi';exact⟨j,q1,hvi',by show GI (y i)=_;rw[q2]⟩
   .rintro⟨i,hi,hvi,rfl⟩;by_cases hke:MA (B.os i) c.ob;.exfalso;cases f:CM B.hs (B.os i).kind (B.os i).name B.hn with
     |some j=>have:=M6 h hi f;omega
     |none=>have q:=ha B.hn hk (Bj _);rw[hc,hl _ _ _ Bg,<-hke.1,<-hke.2]at q;exact hnew (q f) i hi hke
    .obtain⟨i',q1,q2⟩:=a.keep i hi hke;exact⟨i',q1,by show(y i').ver<=B.floor;rw[q2];exact hvi,by show _=GI (y i');rw[q2]⟩
theorem Ya{B:Bk}{v:Wr}(h:VB B)(hc:Bv B v=0)(hcr:FK (Dc B v)=true):∀i,i<B.on->¬MA (B.os i) (Cp B v):=λi hi hk=>by have hfd:=KC (He hc).1;obtain⟨k1,k2,k3,k4⟩:=QB hfd;have fi:B8 B.os v.kind v.name B.on=true:=Jp hi ⟨hk.1.trans k1,hk.2.trans k2⟩;have h1:¬v.op=1:=λe=>hfd (by rw[fi,decide_eq_true e]);obtain⟨i',i1,i2,_,_⟩:=I2 fi;have hp:=(h.fit i' i1).1;obtain⟨p1,p2,p3,p4⟩:=Jr hp;unfold FK at hcr;simp only[Ak,beq_iff_eq]at hcr;have e:(Cp B v).born=B.now+1:=hcr.2;rw[k4 h1,i2]at e;omega
theorem Vy{B:Bk}{v:Wr}(h:VB B)(hok:IR B v)(hc:Bv B v=0){kv':Nat}(hlt:(Eg B v).floor+(kv':Int)<=B.now)(ha:Tb (Eg B v) kv'):∃kv:Nat,kv<=B.hn/\B.floor+(kv:Int)=(Eg B v).floor+(kv':Int)/\Tb B kv/\∀o,Uh (Eg B v) kv' o↔Uh B kv o:=by
 have hnow:=h.hnow;by_cases h2:B.hn=200
 .have d:=PO h Zb;have a:=Pu (B:=B) (B1:=D1 B) rfl rfl rfl d (by show B.hn-1<200;omega) hok hc;have e:Eg B v=E6 (D1 B) (Dc B v) (Eg B v).on (Eg B v).os:=by unfold Eg E6 D1 fP GG;simp[h2]
  have vf:=h.ver 0 Zb;have ef:(Eg B v).floor=B.floor+1:=by rw[e];show(B.hs 0).ver=_;omega
  rw[ef]at hlt⊢;rw[e]at ha⊢;obtain⟨r1,r2⟩:=Uj d a (PT d a) (λq=>Ya (B:=B) (v:=v) h hc q) (kv:=kv') (by show kv'<=B.hn-1;omega) ha;obtain⟨s1,s2⟩:=Wv h Zb (kv:=kv'+1) Zb Zb (by rw[Eu];exact r1);rw[Eu]at s2;exact⟨kv'+1,Zb,Zb,s1,λo=>(r2 o).trans (s2 o)⟩
 .have a:=Pu (B:=B) (B1:=B) rfl rfl rfl h (by have:=h.hn;omega) hok hc;have e:Eg B v=E6 B (Dc B v) (Eg B v).on (Eg B v).os:=by unfold Eg E6 fP GG;simp[h2]
  have ef:(Eg B v).floor=B.floor:=by rw[e];rfl
  rw[ef]at hlt⊢;rw[e]at ha⊢;obtain⟨r1,r2⟩:=Uj h a (PT h a) (λq=>Ya (B:=B) (v:=v) h hc q) (kv:=kv') Zb ha;exact⟨kv',Zb,rfl,r1,r2⟩
structure Ny (B:Bk)(first:Int)(past:List (List Ob)):Prop where
 len:B.now+1=first+(past.length:Int)pos:1<=past.length
 is:∀m,m<past.length->∀kv:Nat,kv<=B.hn->B.floor+(kv:Int)=first+(m:Int)->Tb B kv->∀o,Uh B kv o↔o∈(past.getD m []).map GI
theorem TK{B:Bk}(h:VB B)(o:Ob):Uh B B.hn o↔o∈(Eo B.on B.os).map GI:=by
 rw[aE h,CI];constructor;.rintro⟨i,hi,rfl⟩;exact⟨B.os i,IH.2 ⟨i,hi,rfl⟩,rfl⟩
 .rintro⟨z,hz,rfl⟩;obtain⟨i,hi,rfl⟩:=IH.1 hz;exact⟨i,hi,rfl⟩
theorem Ns{B:Bk}(h:VB B):Ny B B.now [Eo B.on B.os]:=by
 refine⟨rfl,Az _,λm hm kv hk e _ o=>?_⟩;obtain rfl:m=0:=by simpa using hm
 have:=h.hnow;obtain rfl:kv=B.hn:=Zb;exact TK h o
theorem S9{B:Bk}{v:Wr}{first:Int}{past:List (List Ob)}(h:VB B)(hok:IR B v)(hc:Bv B v=0)(hp:Ny B first past):Ny (Eg B v) first (past++[Eo (Eg B v).on (Eg B v).os]):=by
 have h':=I8 h hok hc;have hl:=hp.len;have hnw:(Eg B v).now=B.now+1:=rfl;have hn':=h'.hnow;refine⟨by rw[hnw,CP];show _=first+((past.length+1:Nat):Int);omega,by rw[CP];show 1<=past.length+1;omega,λm hm kv hk e ha o=>?_⟩;rw[CP]at hm;have hm':m<past.length+1:=hm;by_cases hml:m<past.length;.obtain⟨kv2,q1,q2,q3,q4⟩:=Vy h hok hc (kv':=kv) Zb ha;rw[q4 o,hp.is m hml kv2 q1 Zb q3 o,A6,A6,GD hml]
 .obtain rfl:m=past.length:=Zb;obtain rfl:kv=(Eg B v).hn:=Zb;rw[TK h' o,A6,KT Bg,Nat.sub_self];rfl
theorem WW:∀{l1 l2:List Ob},Ol l1->Ol l2->(∀o,o∈l1↔o∈l2)->l1=l2
 |[],[],_,_,_=>rfl
 |[],b::_,_,_,h=>absurd ((h b).2 Cs) Zc
 |a::_,[],_,_,h=>absurd ((h a).1 Cs) Zc
 |a::l1,b::l2,h1,h2,h=>by
  have irr:∀z:Ob,¬CN z z=true:=λz e=>by rw[JX rfl rfl]at e;cases e
  have p1:=H9.1 h1;have p2:=H9.1 h2;have hab:a=b:=by
   rcases CD.1 ((h a).1 Cs)with e|e;.exact e
   .rcases CD.1 ((h b).2 Cs)with f|f;.exact f.symm
    .exact absurd (Fn (p1.1 b f) (p2.1 a e)) (irr a)
  subst hab;have hl:l1=l2:=WW p1.2 p2.2 λo=>⟨λho=>by
   rcases CD.1 ((h o).1 (CZ _ ho))with e|e;.subst e;exact absurd (p1.1 o ho) (irr o)
   .exact e,λho=>by
   rcases CD.1 ((h o).2 (CZ _ ho))with e|e;.subst e;exact absurd (p2.1 o ho) (irr o)
   .exact e⟩;rw[hl]
theorem Wo{l:List Ob}(h:Ol l):Ol (l.map GI):=by unfold Ol;rw[IZ];exact h
theorem O5 (o:Ob):∀l,o∈Ht o l
 |[]=>Cs
 |y::r=>by
  unfold Ht;split;.exact CZ _ (O5 o r)
  .exact Cs
theorem XT{o:Ob}{g:Bool}{l:List Ob}{z:Ob}:z∈My o g l↔(z=o/\g=false)\/(z∈l/\¬MA z o):=by
 constructor
 .intro h;rcases O4 h with q|⟨q1,q2⟩;.exact AO q
  .exact AD ⟨q1,λe=>q2 ((Lg z o).2 e)⟩
 .rintro(⟨rfl,rfl⟩|⟨q1,q2⟩);.exact O5 z l
  .exact OP q1 λe=>q2 ((Lg z o).1 e)
theorem N6{n:Nat}{x:Nat->Ob}{o:Ob}{g:Bool}{z:Ob}:z∈Eo (Cq n x o g).m (Cq n x o g).y↔(z=o/\g=false)\/(z∈Eo n x/\¬MA z o):=by rw[Jt];exact XT
theorem Pi{n:Nat}{x:Nat->Ob}{o:Ob}{g:Bool}(h:Ol (Eo n x)):Ol (Eo (Cq n x o g).m (Cq n x o g).y):=by rw[Jt];exact Pv h
theorem Tu{B:Bk}(h:VB B):∀{k:Nat},k<=B.on->Ol (Eo (Cm B.os B.floor k).1 (Cm B.os B.floor k).2)/\∀o,o∈Eo (Cm B.os B.floor k).1 (Cm B.os B.floor k).2↔∃i,i<k/\(B.os i).ver<=B.floor/\o=B.os i
 |0,_=>⟨List.Pairwise.nil,λo=>⟨λq=>(by cases q),λ⟨i,hi,_⟩=>absurd hi (Ai i)⟩⟩
 |k+1,hk=>by
  obtain⟨p,q⟩:=Tu h (show k<=B.on by omega);unfold Cm;by_cases hv:(B.os k).ver<=B.floor
  .rw[if_pos hv];refine⟨Pi p,λo=>?_⟩;rw[show(o∈Eo (Cq (Cm B.os B.floor k).1 (Cm B.os B.floor k).2 (B.os k) false).m (Cq (Cm B.os B.floor k).1 (Cm B.os B.floor k).2 (B.os k) false).y)↔_ from N6,q o];constructor
   .rintro(⟨rfl,_⟩|⟨⟨i,hi,hvi,rfl⟩,_⟩);.exact⟨k,Bj _,hv,rfl⟩
    .exact⟨i,Zb,hvi,rfl⟩
   .rintro⟨i,hi,hvi,rfl⟩;by_cases e:i=k;.subst e;exact AO ⟨rfl,rfl⟩
    .refine AD ⟨⟨i,Zb,hvi,rfl⟩,λhk2=>?_⟩;have a:=J0 h.asc i k Zb Zb;rw[JX (congrArg _ hk2.1) (congrArg _ hk2.2)]at a;cases a
  .rw[if_neg hv];refine⟨p,λo=>?_⟩;rw[q o];constructor;.rintro⟨i,hi,hvi,rfl⟩;exact⟨i,Zb,hvi,rfl⟩
   .rintro⟨i,hi,hvi,rfl⟩;have:¬i=k:=λe=>by subst e;exact hv hvi
    exact⟨i,Zb,hvi,rfl⟩
def T3 (B:Bk)(kv:Nat)(o:Ob):Prop:=match CM B.hs o.kind o.name kv with
 |some j=>(B.hs j).gone=false/\o=(B.hs j).ob
 |none=>∃i,i<B.on/\(B.os i).ver<=B.floor/\o=B.os i
theorem aB{B:Bk}{kv:Nat}{o:Ob}:Uh B kv o↔∃z,T3 B kv z/\GI z=o:=by
 constructor;.intro h;cases e:CM B.hs o.kind o.name kv with
  |some j=>rw[Hx e]at h;obtain⟨_,k1,k2⟩:=DZ e;exact⟨(B.hs j).ob,by unfold T3;rw[k1,k2,e];exact⟨h.1,rfl⟩,h.2.symm⟩
  |none=>rw[Gv e]at h;obtain⟨i,hi,hv,rfl⟩:=h;exact⟨B.os i,by unfold T3;rw[show CM B.hs (B.os i).kind (B.os i).name kv=none from e];exact⟨i,hi,hv,rfl⟩,rfl⟩
 .rintro⟨z,hz,rfl⟩;unfold T3 at hz;cases e:CM B.hs z.kind z.name kv with
  |some j=>rw[e]at hz;exact(Hx (show CM B.hs (GI z).kind (GI z).name kv=some j from e)).2 ⟨hz.1,by rw[hz.2]⟩
  |none=>rw[e]at hz;obtain⟨i,hi,hv,rfl⟩:=hz;exact(Gv (show CM B.hs (GI (B.os i)).kind (GI (B.os i)).name kv=none from e)).2 ⟨i,hi,hv,rfl⟩
theorem Ps{B:Bk}(h:VB B){kv:Nat}{ver:Int}(hv:ver=B.floor+(kv:Int)):∀{k:Nat},k<=B.hn->Ol (Eo (Dv (Cm B.os B.floor B.on) B.hs ver k).1 (Dv (Cm B.os B.floor B.on) B.hs ver k).2)/\∀o,o∈Eo (Dv (Cm B.os B.floor B.on) B.hs ver k).1 (Dv (Cm B.os B.floor B.on) B.hs ver k).2↔T3 B (if k<=kv then k else kv) o
 |0,_=>by obtain⟨p,q⟩:=Tu h Bg;refine⟨p,λo=>?_⟩;rw[if_pos OM];exact q o
 |k+1,hk=>by
  obtain⟨p,q⟩:=Ps h hv (show k<=B.hn by omega);have vk:=h.ver k Zb;unfold Dv;by_cases hc:(B.hs k).ver<=ver
  .have hkv:k+1<=kv:=Zb;rw[if_pos hc,if_pos hkv];rw[if_pos (show k<=kv by omega)]at q;refine⟨Pi p,λo=>?_⟩;rw[show(o∈Eo (Cq (Dv (Cm B.os B.floor B.on) B.hs ver k).1 (Dv (Cm B.os B.floor B.on) B.hs ver k).2 (B.hs k).ob (B.hs k).gone).m (Cq (Dv (Cm B.os B.floor B.on) B.hs ver k).1 (Dv (Cm B.os B.floor B.on) B.hs ver k).2 (B.hs k).ob (B.hs k).gone).y)↔_ from N6,q o];by_cases hke:(B.hs k).ob.kind=o.kind/\(B.hs k).ob.name=o.name
   .have e:T3 B (k+1) o↔(B.hs k).gone=false/\o=(B.hs k).ob:=by unfold T3;rw[Fb hke]
    rw[e];constructor
    .rintro(⟨a,b⟩|⟨_,b⟩);.exact⟨b,a⟩
     .exact absurd ⟨hke.1.symm,hke.2.symm⟩ b
    .rintro⟨a,b⟩;exact AO ⟨b,a⟩
   .have e:T3 B (k+1) o↔T3 B k o:=by unfold T3;rw[ES hke]
    rw[e];constructor
    .rintro(⟨rfl,_⟩|⟨a,_⟩);.exact absurd ⟨rfl,rfl⟩ hke
     .exact a
    .intro a;exact AD ⟨a,λb=>hke ⟨b.1.symm,b.2.symm⟩⟩
  .have hkv:¬k+1<=kv:=Zb;rw[if_neg hc,if_neg hkv];refine⟨p,λo=>?_⟩;rw[q o];by_cases e:k<=kv;.rw[if_pos e,show k=kv by omega]
   .rw[if_neg e]
theorem TF{B:Bk}(h:VB B){kv:Nat}{ver:Int}(hv:ver=B.floor+(kv:Int)):∀{k:Nat},k<=B.hn->GH B.hs ver k=true->∀j,kv<=j->j<k->CM B.hs (B.hs j).ob.kind (B.hs j).ob.name j=none->FK (B.hs j)=true
 |0,_,_=>λj _ hj=>absurd hj (Ai j)
 |k+1,hk,ha=>λj hj hjk e=>by
  unfold GH at ha;simp only[Ak]at ha;by_cases hjn:j=k
  .subst hjn;have vk:=h.ver j Zb;have a2:=ha.2;have:D7 B.hs (B.hs j).ob j=-1:=by unfold D7;rw[e]
   rw[this,decide_eq_false (show¬(B.hs j).ver<=ver by omega)]at a2;simpa using a2
  .exact TF h hv Zb ha.1 j hj Zb e
theorem Ug{B:Bk}(h:VB B){first:Int}{past:List (List Ob)}(hp:Ny B first past)(hpw:∀l∈past,Ol l){kv m:Nat}{ver:Int}(hv:ver=B.floor+(kv:Int))(hk:kv<=B.hn)(hm:m<past.length)(hvm:ver=first+(m:Int))(ha:GH B.hs ver B.hn=true):(Eo (Dv (Cm B.os B.floor B.on) B.hs ver B.hn).1 (Dv (Cm B.os B.floor B.on) B.hs ver B.hn).2).map GI=(past.getD m []).map GI:=by
 obtain⟨p,q⟩:=Ps h hv Bg;have pl:Ol (past.getD m []):=by rw[A6,BN hm,Option.getD_some];exact hpw _ (GC hm)
 refine WW (Wo p) (Wo pl) λo=>?_;rw[<-hp.is m hm kv hk Zb (TF h hv Bg ha) o,CI,aB];have e:(if B.hn<=kv then B.hn else kv)=kv:=by
  by_cases g:B.hn<=kv;.rw[if_pos g];omega
  .rw[if_neg g]
 rw[e]at q;constructor;.rintro⟨z,hz,rfl⟩;exact⟨z,(q z).1 hz,rfl⟩
 .rintro⟨z,hz,rfl⟩;exact⟨z,(q z).2 hz,rfl⟩
theorem iC{B:Bk}(h:VB B):GH B.hs B.now B.hn=true/\(Eo (Dv (Cm B.os B.floor B.on) B.hs B.now B.hn).1 (Dv (Cm B.os B.floor B.on) B.hs B.now B.hn).2).map GI=(Eo B.on B.os).map GI:=by
 have hn:=h.hnow;have ha:∀k,k<=B.hn->GH B.hs B.now k=true:=λk=>by induction k with
  |zero=>exact λ_=>rfl
  |succ k ih=>intro hk;have vk:=h.ver k Zb;unfold GH;rw[ih Zb,decide_eq_true (show(B.hs k).ver<=B.now by omega)];rfl
 exact⟨ha _ Bg,Ug h (Ns h) (λl hl=>by rw[List.mem_singleton]at hl;subst hl;exact KN.1 (J0 h.asc)) (m:=0) (kv:=B.hn) Zb Bg Zc Zb (ha _ Bg)⟩
end Go.Proofs.YtofencldleijcaaGreat
