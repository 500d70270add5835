import Derived.Test.YtdknjmgdgnmhjaaGreatPk12
import Derived.Laws.EntriesVeiled
import Derived.Deep.MidRow
import Derived.LaidEql
import Derived.Stop.Asserts
import Derived.RowKitTokens
set_option maxRecDepth 100000
set_option maxHeartbeats 8000000
namespace Go.Proofs.YtdknjmgdgnmhjaaGreat
open Go.RowKit Go.Maps Go.Proofs.Tryz
variable {x y f:Nat→Ob}{B:Bk}{v:Wr}{w w' X Y:World}{P:Ob→Prop}{lo hi hi' n r xb b:Nat}{ad:OA}{A:Nat→Option Addr}{s:Nat→ByteArray}{C:Nat→Nat}{o:Ob}

/-! the objects behind a write,as a list -/
theorem wA{x z:Ob}(h1:x.k.toList=z.k.toList) (h2:x.n.toList=z.n.toList):DY x z=false:=by unfold DY;rw[if_pos h1];exact IG h2
theorem tc (hf:CC B.os v.k v.n B.on=true\/v.op=1):(CL B v).k=v.k/\(CL B v).n=v.n:=by
 by_cases h1:v.op=1;.unfold CL KX;rw[if_pos h1];exact⟨rfl,rfl⟩
 .have hf:CC B.os v.k v.n B.on=true:=hf.resolve_right h1;have hk:(Cx B v).k=v.k/\(Cx B v).n=v.n:=by unfold Cx Ck;unfold CC at hf;cases hx:LP B.os v.k v.n B.on with
   |none=>rw[hx]at hf;cases hf
   |some i=>exact(MZ hx).2
  unfold CL KX;rw[if_neg h1];split;.exact hk
  .split;.exact hk
   .split<;>exact hk
theorem Yi (hc:B8 B v=0):CC B.os v.k v.n B.on=true\/v.op=1:=by cases hf:CC B.os v.k v.n B.on with
 |true=>exact AA rfl
 |false=>
  refine Az ?_;by_cases h:v.op=1;.exact h
  .have:=(dK hf h).1;unfold B8 at hc;rw[this,if_neg Zb]at hc;exact absurd hc Zb
theorem lw{w:Wr}(h:G6 w.op 1 5=false):QT w=false:=by unfold G6 at h;simp at h;unfold QT;rw[if_neg Za,if_neg Za,if_neg Za,if_neg Za,if_neg Za]
theorem Afj{w:Wr}(h:WY w=true):N7 w=QT w:=by unfold N7;rw[h];rfl
theorem GY (w:Wr) (hf:Q7 w) (W:World):Calls prog 58 #[.agg (vW w)] W fun e w'=>e=.returned (.bool (N7 w))∧Below W.1.size W w':=by
 obtain ⟨op,ki,na,se,te,ho⟩:=w
 have htx:=hf.t
 dsimp only at htx ⊢
 cases Cs:G6 op 1 5 with
 | false=>
  have HE:=Ab (show N7 ⟨op,ki,na,se,te,ho⟩=false by unfold N7;rw [lw (w:=⟨op,ki,na,se,te,ho⟩) Cs];simp)
  go_enter func58,ntmps58
  go_wp2_with (go_at_call 62;refine (FK _ _ _ _).mono ?_;rintro e w1 ⟨rfl,rfl⟩;rw [Cs])
  exact Kx
 | true=>
 have IL:op=1∨op=2∨op=3∨op=4∨op=5:=by
  unfold G6 at Cs
  simp at Cs
  omega
 go_enter func58,ntmps58
 go_upto_region 1 with fail
 go_cut [42] from 5 to 94 (fun s42 wx=>s42=.bool (!WY ⟨op,ki,na,se,te,ho⟩)∧W.alloc (.cells #[.i op,.s ki,.s na,.i se,.s te,.s ho] 76)=wx)
 case first=>
  clear IL
  rcases O9 (Cc ki) with nk|nk
  rcases O9 (Cc na) with nn|nn
  rcases KG (se<0) with hs|hs
  rotate_left
  rcases KG ((300:Int)<te.size) with ht|ht
  rotate_left
  rcases KG (ho=⟨#[]⟩) with rfl|hh
  rotate_left
  rcases O9 (Cc ho) with nh|nh
  all_goals
   try have hhb:=xZ hh
   try have hhl:=Ml hh
   go_wp2_with (first|(go_at_call 62;refine (FK _ _ _ _).mono ?_;rintro e w1 ⟨rfl,rfl⟩;rw [Cs])|(go_at_call 80;refine (Dm _ _ (by first|exact hf.k|exact hf.n|exact hf.h)).mono ?_;rintro e w1 ⟨rfl,rfl⟩;first|rw [nk]|rw [nn]|rw [nh]))
   go_meet
   try have hs':0≤se:=Za
   try have ht':te.size≤300:=Za
   exact ⟨congrArg Value.bool (by first|(simp [WY,Vp, *];done)|(simp [WY,Vp, *];omega)),rfl⟩
 case rest=>
  obtain ⟨rfl,rfl⟩:=hcut
  clear Cs
  cases We:WY ⟨op,ki,na,se,te,ho⟩ with
  | false=>
   have HE:=Ab (show N7 ⟨op,ki,na,se,te,ho⟩=false by unfold N7;rw [We];rfl)
   go_wp2
   exact Kx
  | true=>
   have HE:=Ab (Afj We)
   clear We
   rcases IL with rfl|rfl|rfl|rfl|rfl
   rcases KG (se=0) with rfl|hs
   rotate_left 2
   rcases KG (ho=⟨#[]⟩) with rfl|uy
   rotate_left 2
   iterate 3
    rcases KG (te=⟨#[]⟩) with rfl|hte
    rcases KG (ho=⟨#[]⟩) with rfl|uy
    rotate_left 3
   all_goals
    try have iz:(se != 0)=true:=by simp [hs]
    try (have a1:=xZ uy;have a2:=Ml uy;have a3:ho.toList.isEmpty=false:=by simp [Ml uy])
    try (have b1:=xZ hte;have b2:=Ml hte;have b3:te.toList.isEmpty=false:=by simp [Ml hte])
    go_wp2
    go_ret
    exact ⟨A7 (HE.trans (by simp [QT,Vp, *])).symm,AC _ _⟩
def bk0:Bk:=⟨0,0,0,fun _=>Q_,0,fun _=>⟨0,false,Q_⟩,0,fun _=>⟨⟨#[]⟩,0,⟨#[]⟩,0,0⟩⟩
theorem yV (h:N7 v=true):v.op=1\/v.op=2\/v.op=3\/v.op=4\/v.op=5:=by
 unfold N7 at h;rw[As]at h;have h2:=h.2;unfold QT at h2;split at h2;.exact AA ‹_›
 .split at h2;.exact Az (AA ‹_›)
  .split at h2;.exact Az (Az (AA ‹_›))
   .split at h2;.exact Az (Az (Az (AA ‹_›)))
    .split at h2;.exact Az (Az (Az (Az ‹_›)))
     .cases h2
theorem ZS (Cj:LW B v):(Cx B v).hn<=5/\Kl (Cx B v).hn (Cx B v).hs/\(CC B.os v.k v.n B.on=false->Cx B v=Q_):=by unfold Cx Ck CC;cases h:LP B.os v.k v.n B.on with
 |none=>exact⟨Ar _,λi j _ h2=>absurd h2 (Ae _),λ_=>rfl⟩
 |some i=>have h1:=Cj.hold i (MZ h).1;exact⟨h1.1,h1.2,λh2=>by simp at h2⟩
theorem Kn{c:Int}(hc:DE B v=c) (h0:¬c=0){e:Ending}(h:e=.returned (.tuple #[.agg #[.i 0,.bool false,.s ⟨#[]⟩,.s ⟨#[]⟩,.i 0,.i 0,.s ⟨#[]⟩,.bool false,.l none 0 0],.i c])/\Below w.1.size w w'):Qc B v w e w':=by
 have hw:B8 B v=c:=by unfold B8;rw[hc,if_neg h0]
 exact⟨h.2,AA ⟨by rw[hw];exact h0,by rw[hw];exact h.1⟩⟩
theorem fm (h:N7 v=true) (h1:v.op=1):v.s=0:=by unfold N7 at h;rw[As]at h;have h2:=h.2;unfold QT at h2;rw[if_pos h1]at h2;exact of_decide_eq_true h2
theorem fC (n:Nat):(!(!true||decide (0<n)))=((n:Int)==0):=by cases n with
 |zero=>rfl
 |succ k=>simp;omega
theorem Vk (B:Bk) (v:Wr) (a1 a2 a3:OA) (c1 c2 c3:Nat) (w:World) (Cj:LW B v) (hc:Bh w 0 w.1.size a1 B.on B.os):Calls prog 59 #[.agg (vB B a1 a2 a3 c1 c2 c3),.agg (vW v)] w λe w'=>Qc B v w e w':=by obtain⟨hl,Qa,LI⟩:=ZS Cj;have SN:((Cx B v).hn:Int)<=5:=Za;cases ht:CC B.os v.k v.n B.on with
 |false=>
  by_cases h1:v.op=1
  .have hw:=LI ht;have hs:=fm Cj.wr h1;have he:(Cx B v).e=false:=by rw[hw];rfl
   have J2:=Acd ht hw h1 hs;by_cases NA:100<=B.on
   .rw[if_pos NA]at J2;exact(Acp B v a1 a2 a3 c1 c2 c3 (Cx B v) w Cj hc rfl SN ht h1 hs he NA).mono (λ_ _ h=>Kn J2 Zb h)
   .rw[if_neg NA]at J2;by_cases fR:v.hold=⟨#[]⟩
    .have hx:CL B v=⟨v.k,v.n,B.v+1,B.v+1,v.m,false,0,λ_=>v.hold⟩:=by unfold CL KX;rw[if_pos h1,if_pos (by simp[Vp,fR])]
     have hg:Dl B v=false:=by unfold Dl;rw[hx];simp[Dp]
     exact Acw B v a1 a2 a3 c1 c2 c3 (Cx B v) w Cj hc rfl SN ht h1 J2 hs he fR NA (by show _=Value.agg #[.i (B.v+1),.bool (Dl B v),.s (CL B v).k,.s (CL B v).n,.i (CL B v).t,.i (CL B v).b,.s (CL B v).m,.bool (CL B v).e,.l _ (CL B v).hn _];rw[hg,hx]) (λW A=>by show AK W 0 _ A (CL B v).hn (CL B v).hs=_;rw[hx])
    .have hx:CL B v=⟨v.k,v.n,B.v+1,B.v+1,v.m,false,1,λ_=>v.hold⟩:=by unfold CL KX;rw[if_pos h1,if_neg (by simp[Vp,fR])]
     have hg:Dl B v=false:=by unfold Dl;rw[hx];simp[Dp]
     exact Abr B v a1 a2 a3 c1 c2 c3 (Cx B v) w Cj hc rfl SN ht h1 J2 hs he fR NA (λ_ _=>by show _=Value.agg #[.i (B.v+1),.bool (Dl B v),.s (CL B v).k,.s (CL B v).n,.i (CL B v).t,.i (CL B v).b,.s (CL B v).m,.bool (CL B v).e,.l _ (CL B v).hn _];rw[hg,hx]) (λW A=>by show AK W 0 _ A (CL B v).hn (CL B v).hs=_;rw[hx])
  .exact(gY B v a1 a2 a3 c1 c2 c3 (Cx B v) w Cj hc rfl SN ht h1).mono (λ_ _ h=>Kn (dK ht h1).1 Zb h)
 |true=>
  by_cases h1:v.op=1;.exact(aK B v a1 a2 a3 c1 c2 c3 (Cx B v) w Cj hc rfl SN ht h1).mono (λ_ _ h=>Kn (wL ht h1).1 Zb h)
  by_cases Df:¬v.s=0/\¬v.s=(Cx B v).t;.exact(Ah5 B v a1 a2 a3 c1 c2 c3 (Cx B v) w Cj hc rfl SN ht h1 Df.1 Df.2).mono (λ_ _ h=>Kn (zC ht h1 Df).1 Zb h)
  have LT:v.s=0\/(¬v.s=0/\v.s=(Cx B v).t):=by
   by_cases h:v.s=0;.exact AA h
   .exact Az ⟨h,Classical.byContradiction (λq=>Df ⟨h,q⟩)⟩
  by_cases gQ:(Cx B v).e=true/\¬v.op=5;.exact(Ail B v a1 a2 a3 c1 c2 c3 (Cx B v) w Cj hc rfl SN ht h1 gQ.2 LT gQ.1).mono (λ_ _ h=>Kn (Acc ht h1 Df gQ.1 gQ.2).1 Zb h)
  have J2:=Afg ht h1 Df gQ;have he:¬v.op=5->(Cx B v).e=false:=λh5=>by cases h:(Cx B v).e with
   |false=>rfl
   |true=>exact absurd ⟨h,h5⟩ gQ
  rcases yV Cj.wr with h|h|h|h|h;.exact absurd h h1
  .have he:=he Za;rw[if_neg Za,if_neg Za]at J2;have hx:CL B v=⟨(Cx B v).k,(Cx B v).n,B.v+1,(Cx B v).b,v.m,false,(Cx B v).hn,(Cx B v).hs⟩:=by unfold CL KX;rw[if_neg h1,if_pos h,he]
   have hg:Dl B v=false:=by unfold Dl;rw[hx];simp[Dp]
   exact Afv B v a1 a2 a3 c1 c2 c3 (Cx B v) w Cj hc rfl SN ht h J2 LT he (λ_ _=>by show _=Value.agg #[.i (B.v+1),.bool (Dl B v),.s (CL B v).k,.s (CL B v).n,.i (CL B v).t,.i (CL B v).b,.s (CL B v).m,.bool (CL B v).e,.l _ (CL B v).hn _];rw[hg,hx]) (λW A=>by show AK W 0 _ A (CL B v).hn (CL B v).hs=_;rw[hx])
  .have he:=he Za;rw[if_neg Za,if_neg Za]at J2;have hx:CL B v=⟨(Cx B v).k,(Cx B v).n,B.v+1,(Cx B v).b,(Cx B v).m,true,(Cx B v).hn,(Cx B v).hs⟩:=by unfold CL KX;rw[if_neg h1,if_neg Za,if_pos h]
   have hg:Dl B v=(((Cx B v).hn:Int)==0):=by unfold Dl;rw[hx];exact fC _
   exact Af4 B v a1 a2 a3 c1 c2 c3 (Cx B v) w Cj hc rfl SN ht h J2 LT he (λ_ _=>by show _=Value.agg #[.i (B.v+1),.bool (Dl B v),.s (CL B v).k,.s (CL B v).n,.i (CL B v).t,.i (CL B v).b,.s (CL B v).m,.bool (CL B v).e,.l _ (CL B v).hn _];rw[hg,hx]) (λW A=>by show AK W 0 _ A (CL B v).hn (CL B v).hs=_;rw[hx])
  .have he:=he Za;rw[if_pos h]at J2;cases hh:K1 (Cx B v).hn (Cx B v).hs v.hold with
   |true=>rw[hh,if_pos rfl]at J2;exact(Abf B v a1 a2 a3 c1 c2 c3 (Cx B v) w Cj hc rfl SN ht h LT he hh).mono (λ_ _ h=>Kn J2 Zb h)
   |false=>
    rw[hh,if_neg Zb]at J2;by_cases h5:5<=(Cx B v).hn;.rw[if_pos h5]at J2;exact(Acf B v a1 a2 a3 c1 c2 c3 (Cx B v) w Cj hc rfl SN ht h LT he hh Za).mono (λ_ _ h=>Kn J2 Zb h)
    .rw[if_neg h5]at J2;have hx:CL B v=⟨(Cx B v).k,(Cx B v).n,B.v+1,(Cx B v).b,(Cx B v).m,false,(Cx B v).hn+1,Qb (Cx B v).hs (Gu (Cx B v).hs v.hold (Cx B v).hn) v.hold⟩:=by unfold CL KX;rw[if_neg h1,if_neg Za,if_neg Za,if_pos h,he]
     have hg:Dl B v=false:=by unfold Dl;rw[hx];simp[Dp]
     exact Afc B v a1 a2 a3 c1 c2 c3 (Cx B v) w Cj hc rfl SN ht h LT he hh Za J2 (λ_ _=>by show _=Value.agg #[.i (B.v+1),.bool (Dl B v),.s (CL B v).k,.s (CL B v).n,.i (CL B v).t,.i (CL B v).b,.s (CL B v).m,.bool (CL B v).e,.l _ (CL B v).hn _];rw[hg,hx]) (λW A=>by show AK W 0 _ A (CL B v).hn (CL B v).hs=_;rw[hx])
  .rw[if_neg Za,if_pos h]at J2;cases hh:K1 (Cx B v).hn (Cx B v).hs v.hold with
   |false=>rw[hh,if_neg Zb]at J2;exact(Aca B v a1 a2 a3 c1 c2 c3 (Cx B v) w Cj hc rfl SN ht h LT hh).mono (λ_ _ h=>Kn J2 Zb h)
   |true=>
    rw[hh,if_pos rfl]at J2;have hx0:CL B v=⟨(Cx B v).k,(Cx B v).n,B.v+1,(Cx B v).b,(Cx B v).m,(Cx B v).e,(Cx B v).hn-1,Lp (Cx B v).hs (Gu (Cx B v).hs v.hold (Cx B v).hn)⟩:=by unfold CL KX;rw[if_neg h1,if_neg Za,if_neg Za,if_neg Za]
    cases hE:(Cx B v).e with
    |false=>
     have hx:=hx0;rw[hE]at hx;have hg:Dl B v=false:=by unfold Dl;rw[hx];simp[Dp]
     exact Abo B v a1 a2 a3 c1 c2 c3 (Cx B v) w Cj hc rfl SN ht h LT hE hh Qa _ rfl J2 (λ_ _=>by show _=Value.agg #[.i (B.v+1),.bool (Dl B v),.s (CL B v).k,.s (CL B v).n,.i (CL B v).t,.i (CL B v).b,.s (CL B v).m,.bool (CL B v).e,.l _ (CL B v).hn _];rw[hg,hx]) (λW A=>by show AK W 0 _ A (CL B v).hn (CL B v).hs=_;rw[hx])
    |true=>
     have hx:=hx0;rw[hE]at hx;have hg:Dl B v=((((Cx B v).hn-1:Nat):Int)==0):=by unfold Dl;rw[hx];exact fC _
     exact Acx B v a1 a2 a3 c1 c2 c3 (Cx B v) w Cj hc rfl SN ht h LT hE hh Qa _ rfl J2 (λ_ _=>by show _=Value.agg #[.i (B.v+1),.bool (Dl B v),.s (CL B v).k,.s (CL B v).n,.i (CL B v).t,.i (CL B v).b,.s (CL B v).m,.bool (CL B v).e,.l _ (CL B v).hn _];rw[hg,hx]) (λW A=>by show AK W 0 _ A (CL B v).hn (CL B v).hs=_;rw[hx])
structure Aic (W:World) (a b c:Bool) (va vb vc:Value) (RA RB RC:Value->World->Prop) (X:World):Prop where
 ra:a=true->c=false->RA va X
 rb:b=true->c=false->RB vb X
 sep:a=true->b=true->c=false->∀g h n k m,va=.l (some ⟨g,0,none⟩) n k->0<k->vb=.l (some ⟨h,0,none⟩) m m->g≠h
 rc:c=true->RC vc X
def Aie (n a b c:Nat) (ops:Array Oper) (mk:(Nat->Value)->Array Value) (W:World) (PV:Nat->Value->Prop) (RA RB RC:Value->World->Prop) (Fin:Act->World->Prop) (l:Array Bool) (ac:Act) (X:World):Prop:=l.size=n+1/\(∀i j,Ci ops i j->l.getD i false=true->l.getD j false=true)/\(l.getD n false=true->(∀i,i<n+1->l.getD i false=true)/\Fin ac X)/\(l.getD n false=false->∃t:Nat->Value,ac=⟨mk t,[]⟩/\Below W.1.size W X/\(∀i,i<n->l.getD i false=true->PV i (t i))/\Aic W (l.getD a false) (l.getD b false) (l.getD c false) (t a) (t b) (t c) RA RB RC X)
theorem yX{P:Program}{id:Nat}{ops:Array Oper}{Q:Exit->Act->World->Prop}{a0:Act}{W:World}(hm:P.follows .mixedOrders=true) (n a b c:Nat) (hlt:(a<b/\b<c)/\c<n) (wca:Ci ops c a) (wcb:Ci ops c b)(mk:(Nat->Value)->Array Value) (t0:Nat->Value) (PV:Nat->Value->Prop) (RA RB RC:Value->World->Prop) (Fin:Act->World->Prop)(hn:ops.size=n+1) (Fj:((List.range ops.size).all λi=>match ops[i]? with|some o=>o.after.all (λe=>decide (e.on<i))|none=>true)=true)(gI:((List.range n).all λj=>(List.range (n+1)).any λk=>match ops[k]? with|some o=>decide (j<k)&&o.after.any (λe=>Region.binds .any e&&e.on==j)|none=>false)=true)(gA:∀v X Y,RA v X->Below X.1.size X Y->RA v Y) (gB:∀v X Y,RB v X->Below X.1.size X Y->RB v Y) (gC:∀v X Y,RC v X->Below X.1.size X Y->RC v Y)(bA:∀g n k X,RA (.l (some ⟨g,0,none⟩) n k) X->0<k->g<X.1.size) (bB:∀h m X,RB (.l (some ⟨h,0,none⟩) m m) X->h<X.1.size)(h0:a0=⟨mk t0,[]⟩)(sp:∀i,i<n->i≠a->i≠b->i≠c->∀(t:Nat->Value) X K,Below W.1.size W X->(∀j,Ci ops i j->PV j (t j))->(∀v Y,PV i v->Below X.1.size X Y->K ⟨mk (AX t i v),[]⟩ Y)->wpOp P ops Q i K ⟨mk t,[]⟩ X)(sa:∀(t:Nat->Value) X K,Below W.1.size W X->(∀j,Ci ops a j->PV j (t j))->(∀v Y,PV a v->RA v Y->(∀g n k,v=.l (some ⟨g,0,none⟩) n k->0<k->X.1.size<=g)->Below X.1.size X Y->K ⟨mk (AX t a v),[]⟩ Y)->wpOp P ops Q a K ⟨mk t,[]⟩ X)(sb:∀(t:Nat->Value) X K,Below W.1.size W X->(∀j,Ci ops b j->PV j (t j))->(∀v Y,PV b v->RB v Y->(∀h m,v=.l (some ⟨h,0,none⟩) m m->X.1.size<=h)->Below X.1.size X Y->K ⟨mk (AX t b v),[]⟩ Y)->wpOp P ops Q b K ⟨mk t,[]⟩ X)(sc:∀(t:Nat->Value) X K,Below W.1.size W X->(∀j,Ci ops c j->PV j (t j))->RA (t a) X->RB (t b) X->(∀g h n k m,t a=.l (some ⟨g,0,none⟩) n k->0<k->t b=.l (some ⟨h,0,none⟩) m m->g≠h)->(∀v Y,PV c v->RC v Y->Below W.1.size X Y->K ⟨mk (AX t c v),[]⟩ Y)->wpOp P ops Q c K ⟨mk t,[]⟩ X)(sl:∀(t:Nat->Value) X K,Below W.1.size W X->(∀j,j<n->PV j (t j))->RC (t c) X->(∀ac Y,Fin ac Y->K ac Y)->wpOp P ops Q n K ⟨mk t,[]⟩ X)(G7:∀ac X,Fin ac X->Q .normal ac X):(Code.region id ops true).wp P Q a0 W:=by
 have BJ:∀i j,i<n+1->Ci ops i j->j<i:=by exact wy
 refine Dk hm (Aie n a b c ops mk W PV RA RB RC Fin) ?_ ?_ ?_ ?_
 .have hz:∀i,(Array.replicate ops.size false).getD i false=false:=λi=>by simp[Array.getD]
  refine⟨by simp[hn],λi j _ h=>?_,λh=>?_,λ_=>⟨t0,h0,(Ap _ _).drew,λi _ h=>?_,?_⟩⟩;.rw[hz]at h;cases h
  .rw[hz]at h;cases h
  .rw[hz]at h;cases h
  .simp only[hz];exact⟨λh=>Ns,λh=>Ns,λh=>Ns,λh=>Ns⟩
 .rintro l ac X ⟨hs,_⟩;rw[hs,hn]
 .exact G_
 .rintro l ac X i ⟨hs,Li,h6,hg⟩ hr;obtain⟨hu,o,ho,Bg⟩:=mem_ready.1 hr;have di:∀j,Ci ops i j->l.getD j false=true:=by exact WQ
  have LA:i<n+1:=by exact Z8
  have FH:l.getD i false=false:=by exact Vd
  have l6:l.getD n false=false:=by cases h:l.getD n false with
   |false=>rfl
   |true=>rw[(h6 h).1 i LA]at FH;cases FH
  obtain⟨t,rfl,hb,gg,S⟩:=hg l6;have kp:∀j,¬j=i->(l.setIfInBounds i true).getD j false=l.getD j false:=λj hj=>by rw[Cq Za,if_neg hj]
  have ki:(l.setIfInBounds i true).getD i false=true:=by rw[Cq Za,if_pos rfl]
  have hs':(l.setIfInBounds i true).size=n+1:=by simp[hs]
  have ku:∀j,l.getD j false=true->(l.setIfInBounds i true).getD j false=true:=λj h=>by exact Pm
  have MT:∀p j,Ci ops p j->(l.setIfInBounds i true).getD p false=true->(l.setIfInBounds i true).getD j false=true:=λp j hj h=>by exact fJ
  have dpv:∀j,Ci ops i j->PV j (t j):=λj hj=>gg j (by have:=BJ i j LA hj;omega) (di j hj);have notc:l.getD a false=false\/l.getD b false=false->l.getD c false=false:=λh=>by cases hc:l.getD c false with
   |false=>rfl
   |true=>exact yc
  by_cases Cs:i=n
  .subst Cs;have al:=λj hj=>Vn (f:=λj=>l.getD j false=true) gI Li di i j Za hj;clear hr hu ho h6 hg;refine sl t X _ hb (λj hj=>gg j hj (al j hj)) (S.rc (al c hlt.2)) (λac Y hY=>⟨hs',MT,λ_=>⟨λj hj=>?_,hY⟩,λh=>?_⟩);.exact XU
   .rw[ki]at h;cases h
  have LI:(l.setIfInBounds i true).getD n false=false:=by rw[kp n (λe=>Cs e.symm)];exact l6
  have pv':∀v,PV i v->∀j,j<n->(l.setIfInBounds i true).getD j false=true->PV j (AX t i v j):=λv hv j j1 h=>by
   by_cases e:j=i;.exact RJ
   .rw[kp j e]at h;rw[BP e];exact gg j j1 h
  have il:∀{p:Prop},(l.setIfInBounds i true).getD n false=true->p:=λh=>by rw[LI]at h;cases h
  clear hr hu ho h6 hg;by_cases ea:i=a
  .subst ea;have Nr:=notc (AA FH);refine sa t X _ hb dpv (λv Y V4 bQ Jh hY=>⟨hs',MT,λh=>il h,λ_=>⟨AX t i v,rfl,hb.trans (hY.mono hb.size),pv' v V4,?_⟩⟩);rw[ki,kp b Za,kp c Za,Cf,BP (show¬b=i by omega),BP (show¬c=i by omega)];exact⟨λ_ _=>bQ,λh1 h2=>gB _ _ _ (S.rb h1 h2) hY,λ_ h1 h2 g h n k m e1 hk e2=>by have h3:=Jh g n k e1 hk;have h4:=S.rb h1 h2;rw[e2]at h4;have:=bB h m X h4;omega,λh=>Zco⟩
  by_cases eb:i=b
  .subst eb;have Nr:=notc (Az FH);refine sb t X _ hb dpv (λv Y V4 tE Jh hY=>⟨hs',MT,λh=>il h,λ_=>⟨AX t i v,rfl,hb.trans (hY.mono hb.size),pv' v V4,?_⟩⟩);rw[ki,kp a Za,kp c Za,Cf,BP (show¬a=i by omega),BP (show¬c=i by omega)];exact⟨λh1 h2=>gA _ _ _ (S.ra h1 h2) hY,λ_ _=>tE,λh1 _ h2 g h n k m e1 hk e2=>by have h3:=Jh h m e2;have h4:=S.ra h1 h2;rw[e1]at h4;have:=bA g n k X h4 hk;omega,λh=>Zco⟩
  by_cases ec:i=c
  .subst ec;have la:=di a wca;have lb:=di b wcb;refine sc t X _ hb dpv (S.ra la FH) (S.rb lb FH) (λg h n k m e1 hk e2=>S.sep la lb FH g h n k m e1 hk e2) (λv Y V4 UD hY=>⟨hs',MT,λh=>il h,λ_=>⟨AX t i v,rfl,hb.trans hY,pv' v V4,?_⟩⟩);rw[ki,kp a Za,kp b Za,Cf,BP (show¬a=i by omega),BP (show¬b=i by omega)];exact⟨λ_ h=>Ns,λ_ h=>Ns,λ_ _ h=>Ns,λ_=>UD⟩
  .refine sp i Za ea eb ec t X _ hb dpv (λv Y V4 hY=>⟨hs',MT,λh=>il h,λ_=>⟨AX t i v,rfl,hb.trans (hY.mono hb.size),pv' v V4,?_⟩⟩);rw[kp a (λe=>ea e.symm),kp b (λe=>eb e.symm),kp c (λe=>ec e.symm),BP (λe=>ea e.symm),BP (λe=>eb e.symm),BP (λe=>ec e.symm)];exact⟨λh1 h2=>gA _ _ _ (S.ra h1 h2) hY,λh1 h2=>gB _ _ _ (S.rb h1 h2) hY,S.sep,λh1=>gC _ _ _ (S.rc h1) hY⟩
def Afe (K Xb:Nat) (ad:OA) (n cap:Nat) (c:Ch) (adc:OA) (capc:Nat) (i:Nat) (v:Value):Prop:=match i with
 |0=>∃b,v=.l (some ⟨b,0,none⟩) 0 0
 |1=>v=.p K 3
 |2=>v=.l ad n cap
 |4=>v=.agg (vH c adc capc)
 |7=>v=.p Xb 3
 |_=>True
theorem wV{p0 p1 p3 p4 p6 p7 p8 p9 Ee Em D1 DW DN DU DX DO DP DV DT D9 Ef EJ Ej El Ei Ed Eh Ek Ey Ev Ew Ex EM EH EI EV Er EB ER ES EQ EC ED Eo EW EU EK EL Fv Gy Gx GO GI GQ Gw Gv Fu G9 Ha Hf Hd Hb Hc GL GK Hg:Value}{mk:(Nat->Value)->Array Value}(t0:Nat->Value) (K Cb Xb:Nat) (ad:OA) (n cap:Nat) (c:Ch) (adc:OA) (capc:Nat) (cc:Nat->Value) (lo hi:Nat) (W:World) (hn:n<=200) (CD:hi<=W.1.size) (hs:Cr W lo hi ad (n*9) cc) (hKz:K<W.1.size) (h3:W.cell? ⟨K,3,none⟩=some (.slice ad n cap)) (Nq:AE W Cb 9 (AV [.i c.t,.bool c.g,.s c.ob.k,.s c.ob.n,.i c.ob.t,.i c.ob.b,.s c.ob.m,.bool c.ob.e,.l adc c.ob.hn capc])) (hX:Xb<W.1.size) (u3:Value) (hx3:W.cell? ⟨Xb,3,none⟩=some u3) (hf:W.frozen? ⟨Xb,3,none⟩=false) (Dg:mk=λt=>#[p0,p1,.p K 0,p3,p4,.p Cb 0,p6,p7,p8,p9,.p Xb 0,Ee,Em,D1,DW,DN,DU,DX,DO,DP,DV,DT,D9,Ef,EJ,Ej,El,Ei,Ed,Eh,Ek,Ey,Ev,Ew,Ex,EM,EH,EI,EV,Er,EB,ER,ES,EQ,EC,ED,Eo,EW,EU,EK,EL,t 0,t 1,t 2,t 3,t 4,t 5,t 6,t 7,Fv,Gy,Gx,GO,GI,GQ,Gw,Gv,Fu,G9,Ha,Hf,Hd,Hb,Hc,GL,GK,Hg]) (Q:Exit->Act->World->Prop)(hQ:∀(t:Nat->Value) (v3:Value) X,QZ W (n+1) 9 (Cp cc (n*9) (AV [.i c.t,.bool c.g,.s c.ob.k,.s c.ob.n,.i c.ob.t,.i c.ob.b,.s c.ob.m,.bool c.ob.e,.l adc c.ob.hn capc])) v3 X/\Below W.1.size W X->Q .normal ⟨mk t,[]⟩ (X.setCell ⟨Xb,3,none⟩ v3)):Code.wp prog (rg Tryz.f30 13) Q ⟨mk t0,[]⟩ W:=by
 refine yX Zc 8 3 5 6 Zb (AR rfl) (AR rfl) mk t0 (Afe K Xb ad n cap c adc capc)
  (QZ W n 9 cc) (q_ W 9 (AV [.i c.t,.bool c.g,.s c.ob.k,.s c.ob.n,.i c.ob.t,.i c.ob.b,.s c.ob.m,.bool c.ob.e,.l adc c.ob.hn capc])) (QZ W (n+1) 9 (Cp cc (n*9) (AV [.i c.t,.bool c.g,.s c.ob.k,.s c.ob.n,.i c.ob.t,.i c.ob.b,.s c.ob.m,.bool c.ob.e,.l adc c.ob.hn capc]))) (λac Y=>∃(t:Nat->Value) (v3:Value) (X:World),ac=⟨mk t,[]⟩/\Y=X.setCell ⟨Xb,3,none⟩ v3/\QZ W (n+1) 9 (Cp cc (n*9) (AV [.i c.t,.bool c.g,.s c.ob.k,.s c.ob.n,.i c.ob.t,.i c.ob.b,.s c.ob.m,.bool c.ob.e,.l adc c.ob.hn capc])) v3 X/\Below W.1.size W X) Zc Zc Zc (λ_ _ _ h hb=>h.grow hb) (λ_ _ _ h hb=>h.grow hb) (λ_ _ _ h hb=>h.grow hb) (λ_ _ _ _ h hk=>h.lt hk) (λ_ _ _ h=>h.lt) rfl ?_ ?_ ?_ ?_ ?_ ?_;all_goals subst Dg
 .intro i hi1 g3 g5 g6 t X KK hb hg hK;rcases(show i=0\/i=1\/i=2\/i=4\/i=7 by omega)with rfl|rfl|rfl|rfl|rfl;.have h:=hK (.l (some ⟨X.1.size,0,none⟩) 0 0) (X.alloc (.cells #[] 54)) ⟨_,rfl⟩ Do;exact JC
  .exact sg
  .have AY:t 1=_:=hg 1 (AR rfl);have l0:=(hb.cell (p:=⟨K,3,none⟩) hKz).trans h3;have zl:=Aa hKz hb.size;exact L7
  .have l0:=(hb.cell (p:=⟨Cb,0,none⟩) Nq.lt).trans (Nq.cell 0 Zb);have l1:=(hb.cell (p:=⟨Cb,1,none⟩) Nq.lt).trans (Nq.cell 1 Zb);have l2:=(hb.cell (p:=⟨Cb,2,none⟩) Nq.lt).trans (Nq.cell 2 Zb);have l3:=(hb.cell (p:=⟨Cb,3,none⟩) Nq.lt).trans (Nq.cell 3 Zb);have l4:=(hb.cell (p:=⟨Cb,4,none⟩) Nq.lt).trans (Nq.cell 4 Zb);have l5:=(hb.cell (p:=⟨Cb,5,none⟩) Nq.lt).trans (Nq.cell 5 Zb);have l6:=(hb.cell (p:=⟨Cb,6,none⟩) Nq.lt).trans (Nq.cell 6 Zb);have l7:=(hb.cell (p:=⟨Cb,7,none⟩) Nq.lt).trans (Nq.cell 7 Zb);have l8:=(hb.cell (p:=⟨Cb,8,none⟩) Nq.lt).trans (Nq.cell 8 Zb);simp only[AV,Ac,Ad]at l0 l1 l2 l3 l4 l5 l6 l7 l8;have zl:=Aa Nq.lt hb.size;exact sg
  .exact sg
 .intro t X KK hb hg hK;obtain⟨b0,e0⟩:=hg 0 (AR rfl);have AY:t 2=_:=hg 2 (AR rfl);obtain⟨v,Y,CZ,FW,Jh,Nn⟩:=RS (P:=prog) W X hb 26 26 54 9 112 (.agg #[.i 0,.bool false,.s ByteArray.empty,.s ByteArray.empty,.i 0,.i 0,.s ByteArray.empty,.bool false,.l none 0 0]) underlying26 Gg Za rfl lo hi b0 ad n cap cc (hs.belowR hb CD) Za Za;exact Db rfl rfl (.tmp 51) (.tmp 53) 26 26 rfl (by exact e0) (by exact AY) CZ (hK v Y trivial FW Jh Nn)
 .intro t X KK hb hg hK;have AY:t 4=_:=hg 4 (AR rfl);have h:=hK (.l (some ⟨X.1.size,0,none⟩) 1 1) (X.alloc (.cells (vH c adc capc) 54)) trivial ⟨X.1.size,rfl,hb.size,Ze,⟨λj hj=>by have hr:=AE.new (w:=X) (l:=[.i c.t,.bool c.g,.s c.ob.k,.s c.ob.n,.i c.ob.t,.i c.ob.b,.s c.ob.m,.bool c.ob.e,.l adc c.ob.hn capc]) (t:=54) Dx;exact⟨X.1.size,0,rfl,AG _,BE _,by rw[A6];exact hr.cell j (by simpa using hj)⟩,λj hj=>by rcases(D_ j Za)with rfl|rfl|rfl|rfl|rfl|rfl|rfl|rfl|rfl<;>rfl⟩⟩ (λh m e=>by cases e;exact AG _) Do;exact dt
 .intro t X KK hb hg ra rb _ hK;obtain⟨b8,e8,_,_,s8⟩:=rb;obtain⟨v,Y,CZ,FW,Nn⟩:=NV (P:=prog) W X hb 26 26 54 9 112 (.agg #[.i 0,.bool false,.s ByteArray.empty,.s ByteArray.empty,.i 0,.i 0,.s ByteArray.empty,.bool false,.l none 0 0]) underlying26 Gg Za rfl n cc hs.one (t 3) ra b8 (b8+1) (some ⟨b8,0,none⟩) 1 1 (AV [.i c.t,.bool c.g,.s c.ob.k,.s c.ob.n,.i c.ob.t,.i c.ob.b,.s c.ob.m,.bool c.ob.e,.l adc c.ob.hn capc]) s8 (Az Za) Za Za;exact Db rfl rfl (.tmp 54) (.tmp 56) 26 26 rfl rfl (by exact e8) CZ (hK v Y trivial FW Nn)
 .intro t X KK hb hg rd hK;have AY:t 7=_:=hg 7 Za;have h:=hK ⟨#[p0,p1,.p K 0,p3,p4,.p Cb 0,p6,p7,p8,p9,.p Xb 0,Ee,Em,D1,DW,DN,DU,DX,DO,DP,DV,DT,D9,Ef,EJ,Ej,El,Ei,Ed,Eh,Ek,Ey,Ev,Ew,Ex,EM,EH,EI,EV,Er,EB,ER,ES,EQ,EC,ED,Eo,EW,EU,EK,EL,t 0,t 1,t 2,t 3,t 4,t 5,t 6,t 7,Fv,Gy,Gx,GO,GI,GQ,Gw,Gv,Fu,G9,Ha,Hf,Hd,Hb,Hc,GL,GK,Hg],[]⟩ (X.setCell ⟨Xb,3,none⟩ (t 6)) ⟨t,t 6,X,rfl,rfl,rd,hb⟩;have l0:=(hb.cell (p:=⟨Xb,3,none⟩) hX).trans hx3;have lf:=(hb.frozen (p:=⟨Xb,3,none⟩) hX).trans hf;have zl:=Aa hX hb.size;obtain⟨Ld,g3,KH,e6,_,_⟩:=rd;refine Au rfl rfl ?_;clear hK hg;rw[e6]at h;simp only[e6,AY]at h⊢;go_simp;simpa[e6,AY]using h
 .exact wT
theorem Bh.grow5 (h:Bh w lo hi ad n x) (hh:hi<=hi'):Bh w lo hi' ad n x:=λi hi2=>by obtain⟨b,off,ah,ch,e1,e2,e3,e4,e5⟩:=h i hi2;refine⟨b,off,ah,ch,e1,e2,Za,e4,λj hj=>?_⟩;obtain⟨b',off',g1,g2,g3,g4⟩:=e5 j hj;exact⟨b',off',g1,g2,Za,g4⟩
theorem Si (B:Bk) (v:Wr) (a1 a2 a3:OA) (c1 c2 c3:Nat) (w:World) (Cj:LW B v) (hc:BL w 0 w.1.size B a1 a2 a3) (h0:¬B8 B v=0) (h4:¬B8 B v=4):Calls prog 30 #[.agg (vB B a1 a2 a3 c1 c2 c3),.agg (vW v)] w λe w'=>e=.returned (.agg #[.i (B8 B v),.i B.v,.i B.f,.l a1 B.on c1,.l a2 B.hn c2,.l a3 B.tn c3,.i 0])/\Below w.1.size w w':=by
 have B3:∀o1 o2 o3,Below w.1.size w (((w.alloc o1).alloc o2).alloc o3):=λo1 o2 o3=>(((Ap _ _).alloc A9 _).alloc Ze _).alloc Zd _;have Gj:=Ab B3;clear B3;have HWR:=Ab Cj.wr;have x_:=Ab Cj.wf;have Kf:=Ab Cj;have HC:=Ab hc.o;have w_:=Ab hc;clear Cj hc;have H0:=Ab h0;have H4:=Ab h4;clear h0 h4;go_enter func30,ntmps30;go_wp2_with fail;refine(GY v x_ _).mono ?_;rintro e w1 ⟨rfl,AU⟩;rw[HWR.out];have z1:w.1.size+1+1<w1.1.size:=by have:=AU.size;simp at this;omega
 have MA:=Ab AU;have Kr:=Ab ((Gj _ _ _).trans (AU.mono Zd));obtain⟨X0,X1,X2,Y1,Y2⟩:=BI AU;obtain⟨b0,b1,b2,b3,b4⟩:=Oo X0;obtain⟨p0,p1,p2,p3,p4,p5⟩:=SB X1;obtain⟨r0,r1,r2,r3,r4,r5,r6⟩:=je X2;clear X0 X1 X2;clear AU;go_wp2_with fail;refine(Vk B v a1 a2 a3 c1 c2 c3 w1 Kf (HC.below Kr A9|>.grow5 Kr.size)).mono ?_;rintro e w2 ⟨BT,rH⟩;rcases rH with⟨_,rfl⟩|⟨hz,_⟩;rotate_left;.exact absurd hz H0
 have C6:=MA.trans (BT.mono MA.size);have z2:w.1.size+1+1<w2.1.size:=by have:=BT.size;omega
 have SF:=Ab (Kr.trans (BT.mono Kr.size));clear b0 b1 b2 b3 b4 p0 p1 p2 p3 p4 p5 r0 r1 r2 r3 r4 r5 r6 Y1 Y2;obtain⟨X0,X1,X2,Y1,Y2⟩:=BI C6;obtain⟨b0,b1,b2,b3,b4⟩:=Oo X0;obtain⟨p0,p1,p2,p3,p4,p5⟩:=SB X1;obtain⟨r0,r1,r2,r3,r4,r5,r6⟩:=je X2;clear X0 X1 X2;clear C6 BT z1 Kr;have zA1:w.1.size<w2.1.size:=Za;have VK:w.1.size<w2.1.size+1:=Za;have VL:w.1.size<w2.1.size+1+1:=Za;have zA4:w.1.size<w2.1.size+1+1+1:=Za;have zB1:w.1.size+1<w2.1.size:=Za;have VG:w.1.size+1<w2.1.size+1:=Za;have VQ:w.1.size+1<w2.1.size+1+1:=Za;have zB4:w.1.size+1<w2.1.size+1+1+1:=Za;have UA:w.1.size+1+1<w2.1.size:=Za;have VI:w.1.size+1+1<w2.1.size+1:=Za;have VO:w.1.size+1+1<w2.1.size+1+1:=Za;have zC4:w.1.size+1+1<w2.1.size+1+1+1:=Za;have Kr:=SF;clear SF;have H0b:(B8 B v !=0)=true:=by simpa using H0.out
 have H4b:(B8 B v==4)=false:=by simpa using H4.out
 obtain⟨cc,KP⟩:∃cc,B8 B v=cc:=⟨_,rfl⟩;have PZ:=Ab KP;rw[KP]at H0b H4b⊢;clear KP;go_wp2;refine bodyPost_ret (v:=.agg #[.i cc,.i B.v,.i B.f,.l a1 B.on c1,.l a2 B.hn c2,.l a3 B.tn c3,.i 0]) (by simp[results,results30,go_sem,r0,r1,r2,r3,r4,r5,r6,(show w.1.size+1+1<w2.1.size by omega),(show w.1.size+1+1<w2.1.size+1 by omega),LR]) rfl ⟨by rw[PZ.out],by repeat(first|with_reducible exact Kr.out|with_reducible refine Bs ?_ Zh _|with_reducible refine Cz ?_ Zh _|with_reducible refine CB ?_)⟩
theorem aJ (B:Bk) (v:Wr) (a1 a2 a3:OA) (c1 c2 c3:Nat) (w:World) (Cj:LW B v) (hc:BL w 0 w.1.size B a1 a2 a3) (h4:B8 B v=4):Calls prog 30 #[.agg (vB B a1 a2 a3 c1 c2 c3),.agg (vW v)] w λe w'=>e=.returned (.agg #[.i 4,.i B.v,.i B.f,.l a1 B.on c1,.l a2 B.hn c2,.l a3 B.tn c3,.i (Cx B v).t])/\Below w.1.size w w':=by
 have B3:∀o1 o2 o3,Below w.1.size w (((w.alloc o1).alloc o2).alloc o3):=λo1 o2 o3=>(((Ap _ _).alloc A9 _).alloc Ze _).alloc Zd _;have Gj:=Ab B3;clear B3;have HWR:=Ab Cj.wr;have x_:=Ab Cj.wf;have Kf:=Ab Cj;have HC:=Ab hc.o;have w_:=Ab hc;clear Cj hc;have H4:=Ab h4;clear h4;go_enter func30,ntmps30;go_wp2_with fail;refine(GY v x_ _).mono ?_;rintro e w1 ⟨rfl,AU⟩;rw[HWR.out];have z1:w.1.size+1+1<w1.1.size:=by have:=AU.size;simp at this;omega
 have MA:=Ab AU;have Kr:=Ab ((Gj _ _ _).trans (AU.mono Zd));obtain⟨X0,X1,X2,Y1,Y2⟩:=BI AU;obtain⟨b0,b1,b2,b3,b4⟩:=Oo X0;obtain⟨p0,p1,p2,p3,p4,p5⟩:=SB X1;obtain⟨r0,r1,r2,r3,r4,r5,r6⟩:=je X2;clear X0 X1 X2;clear AU;go_wp2_with fail;refine(Vk B v a1 a2 a3 c1 c2 c3 w1 Kf (HC.below Kr A9|>.grow5 Kr.size)).mono ?_;rintro e w2 ⟨BT,rH⟩;rcases rH with⟨_,rfl⟩|⟨hz,_⟩;rotate_left;.exact absurd hz (by rw[H4.out];decide)
 have C6:=MA.trans (BT.mono MA.size);have z2:w.1.size+1+1<w2.1.size:=by have:=BT.size;omega
 have SF:=Ab (Kr.trans (BT.mono Kr.size));clear b0 b1 b2 b3 b4 p0 p1 p2 p3 p4 p5 r0 r1 r2 r3 r4 r5 r6 Y1 Y2;obtain⟨X0,X1,X2,Y1,Y2⟩:=BI C6;obtain⟨b0,b1,b2,b3,b4⟩:=Oo X0;obtain⟨p0,p1,p2,p3,p4,p5⟩:=SB X1;obtain⟨r0,r1,r2,r3,r4,r5,r6⟩:=je X2;clear X0 X1 X2;clear C6 BT z1 Kr;have zA1:w.1.size<w2.1.size:=Za;have VK:w.1.size<w2.1.size+1:=Za;have VL:w.1.size<w2.1.size+1+1:=Za;have zA4:w.1.size<w2.1.size+1+1+1:=Za;have zB1:w.1.size+1<w2.1.size:=Za;have VG:w.1.size+1<w2.1.size+1:=Za;have VQ:w.1.size+1<w2.1.size+1+1:=Za;have zB4:w.1.size+1<w2.1.size+1+1+1:=Za;have UA:w.1.size+1+1<w2.1.size:=Za;have VI:w.1.size+1+1<w2.1.size+1:=Za;have VO:w.1.size+1+1<w2.1.size+1+1:=Za;have zC4:w.1.size+1+1<w2.1.size+1+1+1:=Za;have Kr:=SF;clear SF;rw[H4.out];have GJ:(B.on:Int)<=100:=by have:=Kf.on;omega
 have Y6:=Ab GJ;go_wp2_with fail;refine(Ce B.v B.f B.on B.os a1 a2 a3 c1 B.hn c2 B.tn c3 v.k v.n _ 0 w.1.size Zh gX Kf.out.fit.os (HC.out.below (by repeat(first|with_reducible exact Kr.out|with_reducible refine Bs ?_ Zh _|with_reducible refine Cz ?_ Zh _|with_reducible refine CB ?_)) A9)).mono ?_;rintro e w3 ⟨A,C,rfl,_,_,E1⟩;have Pc:Below w2.1.size w2 w3:=((Ak _ _).alloc Ze _).trans (E1.mono Zd);have hd:=AE.new (w:=w2.alloc (.cells #[.i 0,.bool false,.s ⟨#[]⟩,.s ⟨#[]⟩,.i 0,.i 0,.s ⟨#[]⟩,.bool false,.l none 0 0] 54)) (l:=[.i 4,.i B.v,.i B.f,.l a1 B.on c1,.l a2 B.hn c2,.l a3 B.tn c3,.i 0]) (t:=73) E1;rw[Av]at hd;have z3:w2.1.size+1<w3.1.size:=by have:=E1.size;simp at this;omega
 have mU:=Ab (Kr.trans (Pc.mono Kr.size));have y2:∀i,w3.frozen? ⟨w.1.size+1+1,i,none⟩=false:=λi=>(Pc.frozen (p:=⟨w.1.size+1+1,i,none⟩) UA).trans (Y2 i);have s0:=(Pc.cell (p:=⟨w.1.size+1+1,0,none⟩) UA).trans r0;have s1:=(Pc.cell (p:=⟨w.1.size+1+1,1,none⟩) UA).trans r1;have s2:=(Pc.cell (p:=⟨w.1.size+1+1,2,none⟩) UA).trans r2;have s3:=(Pc.cell (p:=⟨w.1.size+1+1,3,none⟩) UA).trans r3;have s4:=(Pc.cell (p:=⟨w.1.size+1+1,4,none⟩) UA).trans r4;have s5:=(Pc.cell (p:=⟨w.1.size+1+1,5,none⟩) UA).trans r5;have s6:=(Pc.cell (p:=⟨w.1.size+1+1,6,none⟩) UA).trans r6;have d0:=hd.cell 0 Ze;have d1:=hd.cell 1 Ze;have d2:=hd.cell 2 Ze;have d3:=hd.cell 3 Ze;have d4:=hd.cell 4 Ze;have d5:=hd.cell 5 Ze;have d6:=hd.cell 6 Ze;have df:=hd.free;simp only[AV,Ac,Ad]at d0 d1 d2 d3 d4 d5 d6;clear b0 b1 b2 b3 b4 p0 p1 p2 p3 p4 p5 r0 r1 r2 r3 r4 r5 r6 Y1 Y2;clear E1 Pc hd Kr zA1 VK VL zA4 zB1 VG VQ zB4 VI VO zC4;have zz:w.1.size+1+1<w3.1.size:=Za;have zz2:w.1.size+1+1<w3.1.size+1:=Za;have zy:w2.1.size+1<w3.1.size+1:=Za;have Kr:=mU;clear mU;go_wp2;refine bodyPost_ret (v:=.agg #[.i 4,.i B.v,.i B.f,.l a1 B.on c1,.l a2 B.hn c2,.l a3 B.tn c3,.i (Ck B.os v.k v.n B.on).t]) (by simp[results,results30,go_sem,s0,s1,s2,s3,s4,s5,s6,zz,LR]) rfl ⟨rfl,by repeat(first|with_reducible exact Kr.out|with_reducible refine Bs ?_ Zh _|with_reducible refine Cz ?_ Zh _|with_reducible refine CB ?_)⟩
theorem OW{A:OA}(h:AK X 0 hi A n s) (hr:∀j t,¬X.cell? ⟨r,j,none⟩=some (.s t)) (hf:AB (λq=>q=r\/q=xb) X Y) (hx:hi<=xb) (hz:hi<=X.1.size):AK Y 0 Y.1.size A n s:=λi hi'=>by
 obtain⟨b,off,e1,_,e3,e4⟩:=h i hi';refine⟨b,off,e1,Ar _,Aa (Aa e3 hz) hf.size,(hf.cell (p:=⟨b,off+i,none⟩) (Aa e3 hz) ?_).trans e4⟩;rintro(e|e);.have e':b=r:=e;rw[e']at e4;exact hr _ _ e4
 .have e':b=xb:=e;omega
theorem fy{base:Nat}{v:Value}{m:Nat}(h:kR X base 0 hi v m y A C) (hr:∀j t,¬X.cell? ⟨r,j,none⟩=some (.s t)) (hf:AB (λq=>q=r\/q=xb) X Y) (hx:hi<=xb) (hz:hi<=X.1.size) (hb:xb<base) (tE:r<base):∃ad cap,v=.l ad m cap/\Bh Y 0 Y.1.size ad m y:=by
 obtain⟨c,ho,DR⟩:=h.row;rcases Bi m with h0|h0;.obtain⟨ad,cap,e⟩:=Mt ho;exact⟨ad,cap,e,λi hi'=>absurd hi' Za⟩
 .obtain⟨g,cap,e,hg,r0⟩:=TV ho h0;have r1:=r0.fr hf (by rintro(e|e)<;>omega);refine⟨_,cap,e,λi hi'=>?_⟩;obtain⟨a0,a1,a2,a3,a4,a5,a6⟩:=DR i hi';refine⟨g,0,A i,C i,rfl,Ar _,r1.lt,?_,OW (h.hold i hi') hr hf hx hz⟩;rw[A6];exact⟨(r1.cell _ Za).trans (congrArg some a0),(r1.cell _ Za).trans (congrArg some a1),(r1.cell _ Za).trans (congrArg some a2),(r1.cell _ Za).trans (congrArg some a3),(r1.cell _ Za).trans (congrArg some a4),(r1.cell _ Za).trans (congrArg some a5),(r1.cell _ Za).trans (congrArg some a6)⟩
theorem zH{_W:World}{k:Nat}{cc:Nat->Value}{c:Ch}{adc:OA}{capc:Nat}{x:Nat->Ch}{g cp:Nat}(FW:Rw X (some ⟨g,0,none⟩) g (n+1) cp 9 (Cp cc (n*9) (AV [.i c.t,.bool c.g,.s c.ob.k,.s c.ob.n,.i c.ob.t,.i c.ob.b,.s c.ob.m,.bool c.ob.e,.l adc c.ob.hn capc]))) (_hcp:0<cp) (DR:∀i,i<n->OK cc i (x i) (A i) (C i)) (uy:∀i,i<n->AK X 0 hi (A i) (x i).ob.hn (x i).ob.hs) (hhc:AK X 0 hi adc c.ob.hn c.ob.hs)(hr:∀j t,¬X.cell? ⟨r,j,none⟩=some (.s t)) (hf:AB (λq=>q=r\/q=xb) X Y) (hx:hi<=xb) (hz:hi<=X.1.size) (hg:¬g=r/\¬g=xb) (hk:k<=n):Dv Y 0 Y.1.size (some ⟨g,k*9,none⟩) (n+1-k) (λi=>if i+k<n then x (i+k)else c):=λi hi'=>by
 have r1:AE Y g ((n+1)*9) (Cp cc (n*9) (AV [.i c.t,.bool c.g,.s c.ob.k,.s c.ob.n,.i c.ob.t,.i c.ob.b,.s c.ob.m,.bool c.ob.e,.l adc c.ob.hn capc])):=(FW.rowF Za).2.fr hf (by rintro(e|e);exact hg.1 e;exact hg.2 e);by_cases h:i+k<n;.obtain⟨a0,a1,a2,a3,a4,a5,a6,a7,a8⟩:=DR (i+k) h;refine⟨g,k*9,A (i+k),C (i+k),rfl,Ar _,r1.lt,?_,by dsimp only;rw[if_pos h];exact OW (uy _ h) hr hf hx hz⟩;dsimp only;rw[if_pos h,show k*9+i*9=(i+k)*9 by omega];have q:∀j,j<9->Y.cell? ⟨g,(i+k)*9+j,none⟩=some (cc ((i+k)*9+j)):=λj hj=>(r1.cell _ Za).trans (by unfold Cp;rw[if_pos Za]);exact⟨(q 0 Za).trans (congrArg some a0),(q 1 Za).trans (congrArg some a1),(q 2 Za).trans (congrArg some a2),(q 3 Za).trans (congrArg some a3),(q 4 Za).trans (congrArg some a4),(q 5 Za).trans (congrArg some a5),(q 6 Za).trans (congrArg some a6),(q 7 Za).trans (congrArg some a7),(q 8 Za).trans (congrArg some a8)⟩
 .have e:i+k=n:=Za;refine⟨g,k*9,adc,capc,rfl,Ar _,r1.lt,?_,by dsimp only;rw[if_neg h];exact OW hhc hr hf hx hz⟩;dsimp only;rw[if_neg h,show k*9+i*9=n*9 by omega];have q:∀j,j<9->Y.cell? ⟨g,n*9+j,none⟩=some (AV [.i c.t,.bool c.g,.s c.ob.k,.s c.ob.n,.i c.ob.t,.i c.ob.b,.s c.ob.m,.bool c.ob.e,.l adc c.ob.hn capc] j):=λj hj=>(r1.cell _ Za).trans (by unfold Cp;rw[if_neg Za,Ez]);exact⟨q 0 Za,q 1 Za,q 2 Za,q 3 Za,q 4 Za,q 5 Za,q 6 Za,q 7 Za,q 8 Za⟩
theorem jR{x:Nat->Ti}(h:DD w 0 w.1.size ad n x) (hb:Below w.1.size w X) (hf:AB (λq=>q=r\/q=xb) X Y) (hr:w.1.size<=r) (hx:w.1.size<=xb):DD Y 0 Y.1.size ad n x:=λi hi=>by obtain⟨b,off,e1,_,e3,e4⟩:=h i hi;have e5:=e4.below hb e3;have zX:=hb.size;have q:∀j,Y.cell? ⟨b,j,none⟩=X.cell? ⟨b,j,none⟩:=λj=>hf.cell (p:=⟨b,j,none⟩) (show b<_ by omega) (by rintro(e|e)<;>(have e':b=_:=e;omega));exact⟨b,off,e1,Ar _,by have:=hf.size;omega,⟨(q _).trans e5.c0,(q _).trans e5.c1,(q _).trans e5.c2,(q _).trans e5.c3,(q _).trans e5.c4⟩⟩
def DoL (B:Bk) (v:Wr) (A3:OA) (C3:Nat) (w:World) (e:Ending) (w':World):Prop:=Below w.1.size w w'/\∃(a1 a2 a3:OA) (c1 c2 c3:Nat),e=.returned (.agg #[.i 0,.i (Jd B v).v,.i (Jd B v).f,.l a1 (Jd B v).on c1,.l a2 (Jd B v).hn c2,.l a3 (Jd B v).tn c3,.i (B.v+1)])/\BL w' 0 w'.1.size (Jd B v) a1 a2 a3/\a3=A3/\c3=C3
theorem AK.up5 (h:AK w lo hi ad n s) (hh:hi<=hi'):AK w lo hi' ad n s:=λi h'=>by obtain⟨b,off,e1,e2,e3,e4⟩:=h i h';exact⟨b,off,e1,e2,Za,e4⟩
theorem wI{a:Nat}(h:Below w.1.size w X) (hf:AB (λq=>q=a\/q=b) X Y) (ha:w.1.size<=a) (hb:w.1.size<=b):Below w.1.size w Y:=h.trans (hf.below (λq hq e=>by rcases e with e|e<;>omega) h.size)
theorem UW (B:Bk) (v:Wr) (a1 a2 a3:OA) (c1 c2 c3:Nat) (w:World) (Cj:LW B v) (hc:BL w 0 w.1.size B a1 a2 a3) (h0:B8 B v=0):Calls prog 30 #[.agg (vB B a1 a2 a3 c1 c2 c3),.agg (vW v)] w λe w'=>DoL B v a3 c3 w e w':=by
 have B3:∀o1 o2 o3,Below w.1.size w (((w.alloc o1).alloc o2).alloc o3):=λo1 o2 o3=>(((Ap _ _).alloc A9 _).alloc Ze _).alloc Zd _;have Gj:=Ab B3;clear B3;have HWR:=Ab Cj.wr;have x_:=Ab Cj.wf;have Kf:=Ab Cj;have HC:=Ab hc.o;have w_:=Ab hc;clear Cj hc;have H0:=Ab h0;clear h0;go_enter func30,ntmps30;go_wp2_with fail;refine(GY v x_ _).mono ?_;rintro e w1 ⟨rfl,AU⟩;rw[HWR.out];have z1:w.1.size+1+1<w1.1.size:=by have:=AU.size;simp at this;omega
 have MA:=Ab AU;have Kr:=Ab ((Gj _ _ _).trans (AU.mono Zd));obtain⟨X0,X1,X2,Y1,Y2⟩:=BI AU;obtain⟨b0,b1,b2,b3,b4⟩:=Oo X0;obtain⟨p0,p1,p2,p3,p4,p5⟩:=SB X1;obtain⟨r0,r1,r2,r3,r4,r5,r6⟩:=je X2;clear X0 X1 X2;clear AU;go_wp2_with fail;refine(Vk B v a1 a2 a3 c1 c2 c3 w1 Kf (HC.below Kr A9|>.grow5 Kr.size)).mono ?_;rintro e w2 ⟨BT,rH⟩;rcases rH with⟨hz,_⟩|⟨_,A,C,rfl,hsc⟩;.exact absurd H0.out hz
 have HSC:=Ab hsc;clear hsc;have C6:=MA.trans (BT.mono MA.size);have z2:w.1.size+1+1<w2.1.size:=by have:=BT.size;omega
 have SF:=Ab (Kr.trans (BT.mono Kr.size));clear b0 b1 b2 b3 b4 p0 p1 p2 p3 p4 p5 r0 r1 r2 r3 r4 r5 r6 Y1 Y2;obtain⟨X0,X1,X2,Y1,Y2⟩:=BI C6;obtain⟨b0,b1,b2,b3,b4⟩:=Oo X0;obtain⟨p0,p1,p2,p3,p4,p5⟩:=SB X1;obtain⟨r0,r1,r2,r3,r4,r5,r6⟩:=je X2;clear X0 X1 X2;have Ahc:=Ab C6;clear C6 BT z1 Kr;have zA1:w.1.size<w2.1.size:=Za;have VK:w.1.size<w2.1.size+1:=Za;have VL:w.1.size<w2.1.size+1+1:=Za;have zA4:w.1.size<w2.1.size+1+1+1:=Za;have zB1:w.1.size+1<w2.1.size:=Za;have VG:w.1.size+1<w2.1.size+1:=Za;have VQ:w.1.size+1<w2.1.size+1+1:=Za;have zB4:w.1.size+1<w2.1.size+1+1+1:=Za;have UA:w.1.size+1+1<w2.1.size:=Za;have VI:w.1.size+1+1<w2.1.size+1:=Za;have VO:w.1.size+1+1<w2.1.size+1+1:=Za;have zC4:w.1.size+1+1<w2.1.size+1+1+1:=Za;have Kr:=SF;clear SF;have GJ:(B.on:Int)<=100:=by have:=Kf.on;omega
 have Y6:=Ab GJ;clear GJ;obtain⟨c,hcw⟩:∃c,Ls B v=c:=⟨_,rfl⟩;rw[hcw]at HSC⊢;have HCW:=Ab hcw;clear hcw;go_wp2_with fail;refine(TD B.on B.os a1 c1 c A C _ 0 w2.1.size Zd gX ((HC.out.below (B:=w.1.size) (by repeat(first|with_reducible exact Kr.out|with_reducible refine Bs ?_ Zh _|with_reducible refine Cz ?_ Zh _|with_reducible refine CB ?_)) A9).grow5 Za) (HSC.out.below (B:=w2.1.size) ((Ak _ _).alloc Ze _) A9)).mono ?_;rintro e w3 ⟨u,A1,C1,rfl,YB,E1⟩;obtain⟨a1n,c1n,rfl⟩:∃ad cap,u=.l ad (DH B.on B.os c.ob c.g).m cap:=by obtain⟨_,ho,_⟩:=YB.row;exact Mt ho
 obtain⟨m,hm⟩:∃m,(DH B.on B.os c.ob c.g).m=m:=⟨_,rfl⟩;rw[hm]at YB⊢;have HM:=Ab hm;clear hm;have Ds:Below w2.1.size w2 w3:=((Ak _ _).alloc Ze _).trans (E1.mono Zd);have Kt:AE w3 w2.1.size 9 (AV [.i c.t,.bool c.g,.s c.ob.k,.s c.ob.n,.i c.ob.t,.i c.ob.b,.s c.ob.m,.bool c.ob.e,.l A c.ob.hn C]):=AE.new (w:=w2) (l:=[.i c.t,.bool c.g,.s c.ob.k,.s c.ob.n,.i c.ob.t,.i c.ob.b,.s c.ob.m,.bool c.ob.e,.l A c.ob.hn C]) (t:=54) ((Ak _ _).trans (E1.mono Ze));have jp:=AE.new (w:=w2.alloc (.cells (vH c A C) 54)) (l:=[.i c.t,.i B.f,.l a1 B.on c1,.l a2 B.hn c2,.l a3 B.tn c3]) (t:=36) E1;rw[Av]at jp;have YS:=Ab Ds;have z3:w2.1.size+1<w3.1.size:=by have:=E1.size;simp at this;omega
 simp only[Av]at YB;have P1:=Ab YB;have mU:=Ab (Kr.trans (Ds.mono Kr.size));have y2:∀i,w3.frozen? ⟨w.1.size+1+1,i,none⟩=false:=λi=>(Ds.frozen (p:=⟨w.1.size+1+1,i,none⟩) UA).trans (Y2 i);have g3:=(Ds.cell (p:=⟨w.1.size,3,none⟩) zA1).trans b3;have s0:=(Ds.cell (p:=⟨w.1.size+1+1,0,none⟩) UA).trans r0;have s1:=(Ds.cell (p:=⟨w.1.size+1+1,1,none⟩) UA).trans r1;have s2:=(Ds.cell (p:=⟨w.1.size+1+1,2,none⟩) UA).trans r2;have s3:=(Ds.cell (p:=⟨w.1.size+1+1,3,none⟩) UA).trans r3;have s4:=(Ds.cell (p:=⟨w.1.size+1+1,4,none⟩) UA).trans r4;have s5:=(Ds.cell (p:=⟨w.1.size+1+1,5,none⟩) UA).trans r5;have s6:=(Ds.cell (p:=⟨w.1.size+1+1,6,none⟩) UA).trans r6;have HSR:=Ab (show∀j t,¬w3.cell? ⟨w.1.size+1+1,j,none⟩=some (.s t)from λj t h=>by
  have h2:=(Ds.cell (p:=⟨w.1.size+1+1,j,none⟩) UA).symm.trans h;have h3:=(BI Ahc).2.2.1 j;rw[h2]at h3;rcases(show j<7\/7<=j by omega)with h4|h4;.rcases(YP j Za)with rfl|rfl|rfl|rfl|rfl|rfl|rfl<;>simp at h3
  .rw[DK (by simpa using h4)]at h3;cases h3);have x0:=jp.cell 0 Ze;have x1:=jp.cell 1 Ze;have x2:=jp.cell 2 Ze;have x3:=jp.cell 3 Ze;have x4:=jp.cell 4 Ze;have xf:=jp.free;obtain⟨d0,d1,d2,d3,d4,d5,d6,d7,d8⟩:=Sc Kt;have df:=Kt.free;simp only[AV,Ac,Ad]at x0 x1 x2 x3 x4;have HCR:=Ab Kt;have HXR:=Ab jp;clear b0 b1 b2 b3 b4 p0 p1 p2 p3 p4 p5 r0 r1 r2 r3 r4 r5 r6 Y1 Y2;clear E1 Kt jp YB Kr Gj MA;have Kr:=mU;have zw:w.1.size<w3.1.size:=Za;have zw2:w.1.size+1+1<w3.1.size:=Za;have zw3:w2.1.size<w3.1.size:=Za;clear mU Ds;go_wp2;obtain⟨W,hW⟩:∃W,w3.setCell ⟨w2.1.size+1,2,none⟩ (.l a1n m c1n)=W:=⟨_,rfl⟩;rw[hW];have F4:AB (λq=>q=w2.1.size+1) w3 W:=by rw[<-hW];exact AB.setCell (P:=λq=>q=w2.1.size+1) (p:=⟨w2.1.size+1,2,none⟩) (AB.refl _ _) rfl _
 have hX4:AE W (w2.1.size+1) 5 (AV [.i c.t,.i B.f,.l a1n m c1n,.l a2 B.hn c2,.l a3 B.tn c3]):=by rw[<-hW];exact((show AE w3 (w2.1.size+1) 5 (AV [.i c.t,.i B.f,.l a1 B.on c1,.l a2 B.hn c2,.l a3 B.tn c3])from HXR.out).set (o:=2) Zb _).congr (λj hj=>by rcases(VU j Za)with rfl|rfl|rfl|rfl|rfl<;>rfl)
 have hC4:AE W w2.1.size 9 (AV [.i c.t,.bool c.g,.s c.ob.k,.s c.ob.n,.i c.ob.t,.i c.ob.b,.s c.ob.m,.bool c.ob.e,.l A c.ob.hn C]):=HCR.fr F4 Za;have zW:w3.1.size<=W.1.size:=F4.size;have Aas:Below w.1.size w W:=by rw[<-hW];exact Kr.setCell (by show w.1.size<=w2.1.size+1;omega) _
 have Wd:=Ab (show∀j,W.cell? ⟨w.1.size+1+1,j,none⟩=w3.cell? ⟨w.1.size+1+1,j,none⟩from λj=>F4.cell (p:=⟨w.1.size+1+1,j,none⟩) zw2 (by show¬w.1.size+1+1=w2.1.size+1;omega));have Ahx:=Ab (show∀j,W.frozen? ⟨w.1.size+1+1,j,none⟩=false from λj=>(F4.frozen (p:=⟨w.1.size+1+1,j,none⟩) zw2 (by show¬w.1.size+1+1=w2.1.size+1;omega)).trans (y2 j));have k3:=(F4.cell (p:=⟨w.1.size,3,none⟩) zw (by show¬w.1.size=w2.1.size+1;omega)).trans g3;obtain⟨cc,A2,C2,Mu,Ady,Adx⟩:=Dv.src (w_.h.below Aas A9);have Aem:=Ab Ady;have Ahy:=Ab Adx;have HF4:=Ab F4;have HX4:=Ab hX4;have HC4:=Ab hC4;have jz:=Ab Aas;refine wV (λ_=>undef) w.1.size w2.1.size (w2.1.size+1) a2 B.hn c2 c A C cc 0 w.1.size W Kf.hn Za Mu Za k3 hC4 Za _ (hX4.cell 3 Zb) (hX4.free 3) rfl _ ?_;rintro t v3 X ⟨FW,Jc⟩;obtain⟨Ld,gh,KH,rfl,Gi,WF⟩:=FW;have Mx:0<KH:=Aa Za Gi.le;have FO:=Gi.addr Mx;subst FO;have hgh:=WF Mx;have zX:=Jc.size;have zgh:=(Gi.room Mx).lt;have Ai9:=Gi.le;have YA:=Ab Gi;have OB:=Ab Jc;have hx5:=HX4.below Jc Za;have hc5:=HC4.below Jc Za;have e0:(B.hn=200)->X.cell? ⟨gh,0,none⟩=some (.i (B.hs 0).t):=λh=>by rw[Gi.cell 0 Za];unfold Cp;rw[if_pos Za];exact congrArg some (Aem.out 0 Za).1
 clear d0 d1 d2 d3 d4 d5 d6 d7 d8 df x0 x1 x2 x3 x4 xf;obtain⟨d0,d1,d2,d3,d4,d5,d6,d7,d8⟩:=Sc hc5;obtain⟨x0,x1,x2,x3,x4⟩:=JQ hx5;have r0:=(OB.cell (p:=⟨w.1.size+1+1,0,none⟩) Zk).trans ((Wd.out 0).trans s0);have r1:=(OB.cell (p:=⟨w.1.size+1+1,1,none⟩) Zk).trans ((Wd.out 1).trans s1);have r2:=(OB.cell (p:=⟨w.1.size+1+1,2,none⟩) Zk).trans ((Wd.out 2).trans s2);have r3:=(OB.cell (p:=⟨w.1.size+1+1,3,none⟩) Zk).trans ((Wd.out 3).trans s3);have r4:=(OB.cell (p:=⟨w.1.size+1+1,4,none⟩) Zk).trans ((Wd.out 4).trans s4);have r5:=(OB.cell (p:=⟨w.1.size+1+1,5,none⟩) Zk).trans ((Wd.out 5).trans s5);have r6:=(OB.cell (p:=⟨w.1.size+1+1,6,none⟩) Zk).trans ((Wd.out 6).trans s6);have df:=hc5.free;have xf:=hx5.free;have rf:∀j,X.frozen? ⟨w.1.size+1+1,j,none⟩=false:=λj=>(OB.frozen (p:=⟨w.1.size+1+1,j,none⟩) Zk).trans (Ahx j);clear s0 s1 s2 s3 s4 s5 s6 y2 g3 k3 Mu Ady Adx F4 hX4 hC4 Aas Gi WF Jc hx5 hc5 hW zA1 VK VL zA4 zB1 VG VQ zB4 VI VO zC4;have zx1:w2.1.size<X.1.size:=Za;have zx2:w2.1.size+1<X.1.size:=Za;have zx3:w.1.size+1+1<X.1.size:=Za;have Adk:=Ab (show∀(Y:World) (k cpn nn:Nat) (fl:Int),AB (λq=>q=w.1.size+1+1\/q=w2.1.size+1) X Y->k=JH B->nn=B.hn+1-k->fl=(Jd B v).f->DoL B v a3 c3 w (.returned (.agg #[.i 0,.i c.t,.i fl,.l a1n m c1n,.l (some ⟨gh,k*9,none⟩) nn cpn,.l a3 B.tn c3,.i c.t])) Y from λY k cpn nn fl hf hk j5 jr=>by
  subst hk;subst j5;subst jr;have FP:AB (λq=>q=w.1.size+1+1\/q=w2.1.size+1) w3 Y:=(HF4.mono (λq e=>Az e)).trans ((Aj OB).trans hf);obtain⟨ad,cap,e,ho⟩:=fy P1 HSR FP Za Za Za Za;cases e;have hSX:∀j t,¬X.cell? ⟨w.1.size+1+1,j,none⟩=some (.s t):=λj t h=>HSR.out j t (by rw[<-Wd.out j,<-OB.cell (p:=⟨w.1.size+1+1,j,none⟩) Zk];exact h);have oK:JH B<=B.hn:=by unfold JH;split<;>omega
  have hh:=zH (_W:=W) (k:=JH B) YA Mx Aem (λi hi=>((Ahy i hi).below OB Za).up5 Za) (((HSC.below YS A9).frP HF4 Za (λq hq e=>by omega)).below OB Za) hSX hf Za Za ⟨Za,Za⟩ oK;have ht:=jR w_.t (jz.trans (OB.mono jz.size)) hf Za Za;have ew:=HCW.out;subst ew;have e1:(Jd B v).on=m:=HM.out;have e2:(Jd B v).hn=B.hn+1-JH B:=by show B.hn-JH B+1=_;omega
  have e3:(Jd B v).hs=(λi=>if i+JH B<B.hn then B.hs (i+JH B)else Ls B v):=by
   funext i;show(if i<B.hn-JH B then _ else _)=_;by_cases h:i<B.hn-JH B;.rw[if_pos h,if_pos Za]
   .rw[if_neg h,if_neg Za]
  refine⟨wI (jz.trans (OB.mono jz.size)) hf Za Za,a1n,some ⟨gh,JH B*9,none⟩,a3,c1n,cpn,c3,?_,⟨?_,?_,ht⟩,rfl,rfl⟩;.rw[e1,e2];rfl
  .rw[e1];exact ho
  .rw[e2,e3];exact hh);by_cases QK:B.hn=200;.have e0':=e0 QK;have jX:=Ab QK;clear e0;go_wp2;refine bodyPost_ret (v:=.agg #[.i 0,.i c.t,.i (B.hs 0).t,.l a1n m c1n,.l (some ⟨gh,9,none⟩) 200 (KH-1),.l a3 B.tn c3,.i c.t]) Zbs rfl (Adk.out _ 1 (KH-1) 200 _ (by repeat(first|with_reducible exact AB.refl _ _|with_reducible refine AB.setCell ?_ (by first|exact AA rfl|exact Az rfl) _)) (by unfold JH;rw[if_pos jX.out]) (by rw[jX.out]) (by unfold Jd;dsimp only;rw[if_pos jX.out]))
 .have jX:=Ab QK;have hgt:(B.hn:Int)+1<=200:=by have:=Kf.hn;omega
  clear e0;go_wp2;refine bodyPost_ret (v:=.agg #[.i 0,.i c.t,.i B.f,.l a1n m c1n,.l (some ⟨gh,0,none⟩) (B.hn+1) KH,.l a3 B.tn c3,.i c.t]) Zbs rfl (Adk.out _ 0 KH (B.hn+1) _ (by repeat(first|with_reducible exact AB.refl _ _|with_reducible refine AB.setCell ?_ (by first|exact AA rfl|exact Az rfl) _)) (by unfold JH;rw[if_neg jX.out]) Za (by unfold Jd;dsimp only;rw[if_neg jX.out]))
theorem Mj (h:∀j,P (f j)) (ho:P o) (k:Nat):∀j,P (Cl f k o j):=λj=>by
 unfold Cl;split;.exact ho
 .exact h j
theorem OO{P:Ob->Prop}{x:Nat->Ob}{o:Ob}{g:Bool}(ho:P o):∀k,(∀i,i<k->P (x i))->∀j,P ((EP x o g k).y j)
 |0,_=>λ_=>ho
 |k+1,h=>by
  have ih:=OO (g:=g) ho k (λi hi=>h i Za);have hx:=h k Za;show∀j,P ((CX o (x k) (EP x o g k)).y j);unfold CX;split
  .split;.exact ih
   .exact Mj ih hx _
  .split;.exact Mj ih hx _
   .split;.exact Mj ih ho _
    .exact Mj (Mj ih ho _) hx _
theorem Sf{g:Bool}(ho:P o) (h:∀i,i<n->P (x i)):∀j,P ((DH n x o g).y j):=by
 unfold DH Na;split;.exact OO ho n h
 .exact Mj (OO ho n h) ho _
theorem Uj (n:Nat) (x:Nat->Ob) (o:Ob) (g:Bool):(DH n x o g).m<=n+1:=by
 have h:=Rf x o g n;unfold DH Na;split;.omega
 .rename_i hd;rw[if_neg hd]at h;exact h
theorem QS{x:Int}(h0:0<=x) (h1:x<=1000001):(Lit.int .i64 x).wf=true:=by have a:IntKind.i64.min<=0:=Zb;have b:(1000001:Int)<=IntKind.i64.max:=Zb;simp only[Lit.wf,As,decide_eq_true_eq];omega
theorem mn (Cj:LW B v):Cu (Cx B v):=by unfold Cx Ck;cases h:LP B.os v.k v.n B.on with
 |none=>exact(show Cu Q_ from⟨Zb,Zb,Zb,Zb,λi hi=>absurd hi (Ae _),QS Zb Zb⟩)
 |some i=>exact Cj.fit.os i (MZ h).1
theorem eP (Cj:LW B v):Cu (CL B v):=by
 have hf:=mn Cj;have hl:=(ZS Cj).1;have wf:=Cj.wf;have hv:(Lit.int .i64 (B.v+1)).wf=true:=QS (by have:=Cj.now0;omega) (by have:=Cj.now1;omega);unfold CL KX;split;.exact⟨wf.k,wf.n,wf.t,by dsimp only;split<;>decide,λi _=>wf.h,hv⟩
 .split;.exact⟨hf.k,hf.n,wf.t,hf.h,hf.s,hv⟩
  .split;.exact⟨hf.k,hf.n,hf.t,hf.h,hf.s,hv⟩
   .split
    .refine⟨hf.k,hf.n,hf.t,by dsimp only;omega,λi hi=>?_,hv⟩;dsimp only at hi⊢;unfold Qb;have hr:=(Kz (Cx B v).hs v.hold (Cx B v).hn).1;split;.exact hf.s i Za
     .split;.exact wf.h
      .exact hf.s (i-1) Za
    .refine⟨hf.k,hf.n,hf.t,by dsimp only;omega,λi hi=>?_,hv⟩;dsimp only at hi⊢;unfold Lp;split;.exact hf.s i Za
     .exact hf.s (i+1) Za
theorem UL (Cj:LW B v):BS (Jd B v)/\((Jd B v).on:Int)<=1048576/\((Jd B v).hn:Int)<=1048576:=by
 have h1:=Uj B.on B.os (CL B v) (Dl B v);have h2:=Cj.on;have h3:=Cj.hn;have e1:(Jd B v).on<=101:=by show(DH B.on B.os (CL B v) (Dl B v)).m<=101;omega
 have e2:(Jd B v).hn<=201:=by show B.hn-JH B+1<=201;omega
 refine⟨⟨Za,Za,Cj.fit.t,λi _=>Sf (P:=Cu) (eP Cj) Cj.fit.os i,λi _=>?_,Cj.fit.ts⟩,Za,Za⟩;show Cu (wHs B (Ls B v) i).ob;unfold wHs;split;.exact Cj.fit.hs _ Za
 .exact eP Cj
theorem Ms{j:Nat}{u:Value}(h:w.cell? ⟨b,j,none⟩=some u) (hf:AB (λq=>q<lo) w w') (hl:lo<=b) (hz:b<w.1.size):w'.cell? ⟨b,j,none⟩=some u:=(hf.cell (p:=⟨b,j,none⟩) hz (by show¬b<lo;omega)).trans h
theorem AK.frLo (h:AK w lo hi ad n s) (hf:AB (λq=>q<lo) w w') (hz:hi<=w.1.size) (hh:hi<=hi'):AK w' lo hi' ad n s:=λi h'=>by obtain⟨b,off,e1,e2,e3,e4⟩:=h i h';exact⟨b,off,e1,e2,Za,Ms e4 hf e2 Za⟩
theorem BL.frLo{x:Bk}{a1 a2 a3:OA}(h:BL w lo hi x a1 a2 a3) (hf:AB (λq=>q<lo) w w') (hz:hi<=w.1.size) (hh:hi<=hi'):BL w' lo hi' x a1 a2 a3:=⟨λi h'=>by obtain⟨b,off,ah,ch,e1,e2,e3,e4,e5⟩:=h.o i h';have c:∀{j u},w.cell? ⟨b,j,none⟩=some u->w'.cell? ⟨b,j,none⟩=some u:=λq=>Ms q hf e2 Za;exact⟨b,off,ah,ch,e1,e2,Za,⟨c e4.c0,c e4.c1,c e4.c2,c e4.c3,c e4.c4,c e4.c5,c e4.c6⟩,e5.frLo hf hz hh⟩,λi h'=>by obtain⟨b,off,ah,ch,e1,e2,e3,e4,e5⟩:=h.h i h';have c:∀{j u},w.cell? ⟨b,j,none⟩=some u->w'.cell? ⟨b,j,none⟩=some u:=λq=>Ms q hf e2 Za;exact⟨b,off,ah,ch,e1,e2,Za,⟨c e4.c0,c e4.c1,c e4.c2,c e4.c3,c e4.c4,c e4.c5,c e4.c6,c e4.c7,c e4.c8⟩,e5.frLo hf hz hh⟩,λi h'=>by obtain⟨b,off,e1,e2,e3,e4⟩:=h.t i h';have c:∀{j u},w.cell? ⟨b,j,none⟩=some u->w'.cell? ⟨b,j,none⟩=some u:=λq=>Ms q hf e2 Za;exact⟨b,off,e1,e2,Za,⟨c e4.c0,c e4.c1,c e4.c2,c e4.c3,c e4.c4⟩⟩⟩
end Go.Proofs.YtdknjmgdgnmhjaaGreat
