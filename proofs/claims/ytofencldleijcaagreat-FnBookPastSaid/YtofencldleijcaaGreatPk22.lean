import Derived.Test.YtofencldleijcaaGreatPk19
import Derived.Laws.EntriesVeiled
import Derived.Test.YtofencldleijcaaGreatPk11
import Derived.Deep.Cut
import Derived.Deep.CutRange
import Derived.Deep.MidRow
import Derived.WalkKit
import Derived.LaidEql
import Derived.Stop.Asserts
import Derived.RowKitTokens
set_option maxRecDepth 100000
set_option maxHeartbeats 4000000
namespace Go.Proofs.YtofencldleijcaaGreat
open Go.RowKit Go.Maps Go.Proofs.Tryz
def XV (x:Nat->Ob)(ki na:ByteArray):Nat->Nat
 |0=>0
 |n+1=>if XV x ki na n=n/\P9 x ki na n<0 then n+1 else XV x ki na n
theorem V8 (x:Nat->Ob)(ki na:ByteArray):∀n,XV x ki na n<=n/\(∀j,j<XV x ki na n->P9 x ki na j<0)/\(XV x ki na n<n->¬P9 x ki na (XV x ki na n)<0)
 |0=>⟨Az _,λj hj=>absurd hj (Ai _),λh=>absurd h (Ai _)⟩
 |n+1=>by
  obtain⟨h1,h2,h3⟩:=V8 x ki na n;unfold XV;by_cases e:XV x ki na n=n/\P9 x ki na n<0
  .rw[if_pos e];refine⟨Az _,λj hj=>?_,λh=>absurd h (AJ _)⟩;rcases At j n with h|h;.exact h2 j Zb
   .obtain rfl:j=n:=Zb;exact e.2
  .rw[if_neg e];refine⟨Zb,h2,λ_=>?_⟩;rcases At (XV x ki na n) n with h|h;.exact h3 h
   .have e1:XV x ki na n=n:=Zb;rw[e1];exact λhx=>e ⟨e1,hx⟩
def dK (B:Bk)(v:Wr):Nat:=XV B.os v.kind v.name B.on
def pT (B:Bk)(v:Wr):Bool:=decide (dK B v<B.on)&&decide (P9 B.os v.kind v.name (dK B v)=0)
theorem Yy{B:Bk}{v:Wr}(hok:IR B v):PM B v (dK B v):=by
 obtain⟨h1,h2,h3⟩:=V8 B.os v.kind v.name B.on;refine⟨h1,h2,λj hj hn hx=>?_⟩;rcases Nat.eq_or_lt_of_le hj with e|e;.subst e;exact h3 hn hx
 .exact h3 (Nat.lt_trans e hn) (iK hok _ j e hn hx)
structure WS (w:World)(K g:Nat)(B:Bk)(v:Wr)(L:List EO)(a1:OA)(c1:Nat)(k1 k3 k4:Value):Prop where
 kr:AM w K 5 (A7 [.i B.now,k1,.l a1 B.on c1,k3,k4])row:X8 w a1 g c1 L
 ol:L.map EO.ob=Eo B.on B.os
 hold:∀e∈L,Ax w 0 w.1.size e.A e.ob.hn e.ob.hs
 cap:∀e∈L,E4 w e.ob.hn e.A e.C
 ok:IR B v
theorem WS.dk{w X:World}{K g:Nat}{B:Bk}{v:Wr}{L:List EO}{a1:OA}{c1:Nat}{k1 k3 k4:Value}(h:WS w K g B v L a1 c1 k1 k3 k4)(hb:Below w.1.size w X){D:Nat}(hd:JO X D K v (dK B v:Nat) (pT B v))(hD:D<X.1.size):K6 X D K g B v L a1 c1 (dK B v) (pT B v):=have r:=h.kr.below hb h.kr.lt
 ⟨hd,hD,r.lt,r.cell 0 Za,r.cell 2 Za,h.row.grow hb,h.ol,λe he=>((h.hold e he).below hb Bg).mono Bg hb.size,λe he=>(h.cap e he).grow hb.size,Yy h.ok,rfl,h.ok⟩
theorem WS.objs{w:World}{K g:Nat}{B:Bk}{v:Wr}{L:List EO}{a1:OA}{c1:Nat}{k1 k3 k4:Value}(h:WS w K g B v L a1 c1 k1 k3 k4):Bs w 0 w.1.size a1 B.on B.os:=λi hi=>by
 have hlen:L.length=B.on:=by have:=congrArg List.length h.ol;simpa[Eo]using this
 rcases h.row with⟨_,e2,_⟩|⟨e1,e2,_⟩;.rw[e2]at hlen;simp at hlen;omega
 .have h1:=e2.ob i Zb;have h2:=h.hold _ (Ty (L:=L) (i:=i) Zb);have h3:(QS L i).ob=B.os i:=by have h4:=T1 (L:=L) (i:=i) Zb;rw[h.ol]at h4;simpa[Eo,hi]using h4.symm
  rw[h3]at h1 h2;exact⟨g,0,_,_,e1,Aw _,e2.lt,by rw[Bq];exact h1,h2⟩
def nZ (B:Bk)(v:Wr)(L:List EO)(w X:World)(E:EO):Prop:=E.ob=IP B v (B9 B v).ver/\(Ax X 0 X.1.size E.A E.ob.hn E.ob.hs/\E4 X E.ob.hn E.A E.C)/\(((v.op=2\/v.op=3)/\E.A=(QS L (dK B v)).A/\E.C=(QS L (dK B v)).C/\E.hb=(QS L (dK B v)).hb)\/(¬v.op=2/\¬v.op=3/\w.1.size<=E.hb/\(E.ob.hn≠0->E.hb<X.1.size)/\Bd X E.hb (E.hb+1) E.A E.ob.hn E.ob.hs))
theorem nZ.grow{B:Bk}{v:Wr}{L:List EO}{w X Y:World}{E:EO}(h:nZ B v L w X E)(hb:Below X.1.size X Y):nZ B v L w Y E:=by
 obtain⟨h1,h2,h3⟩:=h;refine⟨h1,⟨(h2.1.below hb Bg).mono Bg hb.size,h2.2.grow hb.size⟩,?_⟩;rcases h3 with h3|⟨q1,q2,q3,q4,q5⟩;.exact AO h3
 .exact AD ⟨q1,q2,q3,λh0=>Ad (q4 h0) hb.size,q5.frP (Ap (P:=λ_=>False) hb) (λh0=>⟨id,q4 h0⟩)⟩
end Go.Proofs.YtofencldleijcaaGreat
namespace Go.Proofs.YtofencldleijcaaGreat
open Go.RowKit Go.Maps Go.Proofs.Tryz
/-! the objects behind a write,as a list -/
theorem JX{x z:Ob}(h1:x.kind.toList=z.kind.toList)(h2:x.name.toList=z.name.toList):CN x z=false:=by unfold CN;rw[if_pos h1];exact Gq h2
theorem aC{B:Bk}{v:Wr}(hf:B8 B.os v.kind v.name B.on=true\/v.op=1):(Cp B v).kind=v.kind/\(Cp B v).name=v.name:=by
 by_cases h1:v.op=1;.unfold Cp IP;rw[if_pos h1];exact⟨rfl,rfl⟩
 .have hf:B8 B.os v.kind v.name B.on=true:=hf.resolve_right h1;have hk:(B9 B v).kind=v.kind/\(B9 B v).name=v.name:=by unfold B9 BS;unfold B8 at hf;cases hx:Jb B.os v.kind v.name B.on with
   |none=>rw[hx]at hf;cases hf
   |some i=>exact(Ju hx).2
  unfold Cp IP;rw[if_neg h1];split;.exact hk
  .split;.exact hk
   .split<;>exact hk
theorem Q3{B:Bk}{v:Wr}(hc:Bv B v=0):B8 B.os v.kind v.name B.on=true\/v.op=1:=by cases hf:B8 B.os v.kind v.name B.on with
 |true=>exact AO rfl
 |false=>
  refine AD ?_;by_cases h:v.op=1;.exact h
  .have:=(TS hf h).1;unfold Bv at hc;rw[this,if_neg Za]at hc;exact absurd hc Za
end Go.Proofs.YtofencldleijcaaGreat
namespace Go.Proofs.YtofencldleijcaaGreat
open Go.RowKit Go.Maps Go.Proofs.Tryz
theorem D5.congr{w:World}{ad:OA}{g n m:Nat}{x y:Nat->Ob}{A:Nat->Option Addr}{C hb:Nat->Nat}(h:D5 w ad g n x A C hb)(hn:n=m)(he:∀i,i<m->x i=y i):D5 w ad g m y A C hb:=by subst hn;refine⟨h.addr,λh0=>?_,λi hi=>by rw[<-he i hi];exact h.hold i hi,λi hi h0=>h.hlt i hi (by rw[he i hi];exact h0),⟨λi hi h0=>h.ap.ne i hi (by rw[he i hi];exact h0),λi j hi hj h1 h2 e=>h.ap.inj i j hi hj (by rw[he i hi];exact h1) (by rw[he j hj];exact h2) e⟩⟩;obtain⟨c,r,hat⟩:=h.row h0;exact⟨c,r,λi hi=>by rw[<-he i hi];exact hat i hi⟩
end Go.Proofs.YtofencldleijcaaGreat
namespace Go.Proofs.YtofencldleijcaaGreat
open Go.RowKit Go.Proofs.Tryz
theorem Z7{w:Wr}(h:DW w.op 1 5=false):Gi w=false:=by unfold DW at h;simp at h;unfold Gi;rw[if_neg Zb,if_neg Zb,if_neg Zb,if_neg Zb,if_neg Zb]
theorem Nn{P:Prop}(h:P:=by go_meet;exact⟨congrArg Value.bool (by first|(simp[ED,nk,nn,hs,ht,LO,hh,nh];done)|(simp[ED,nk,nn,hs,ht,LO,hh,nh];omega)|(simp[ED,nk,nn,hs,ht,LO,hh,nh,Ce hh];done)|(simp[ED,nk,nn,hs,ht,LO,hh,nh,Ce hh];omega)),rfl⟩):P:=h
theorem NZ{P:Prop}(h:P:=by go_meet;exact⟨congrArg Value.bool (by first|(simp[ED,nk,nn,hs,ht,LO];done)|(simp[ED,nk,nn,hs,ht,LO];omega)|(simp[ED,nk,nn,hs,ht,LO,Ce hh];done)|(simp[ED,nk,nn,hs,ht,LO,Ce hh];omega)),rfl⟩):P:=h
theorem Nv{P:Prop}(h:P:=by go_meet;exact⟨congrArg Value.bool (by first|(simp[ED,nk];done)|(simp[ED,nk];omega)|(simp[ED,nk,Ce hh];done)|(simp[ED,nk,Ce hh];omega)),rfl⟩):P:=h
theorem Oc{P:Prop}(h:P:=by go_meet;exact⟨congrArg Value.bool (by first|(simp[ED,nn];done)|(simp[ED,nn];omega)|(simp[ED,nn,Ce hh];done)|(simp[ED,nn,Ce hh];omega)),rfl⟩):P:=h
theorem Np{P:Prop}(h:P:=by go_meet;exact⟨congrArg Value.bool (by first|(simp[ED,hs];done)|(simp[ED,hs];omega)|(simp[ED,hs,Ce hh];done)|(simp[ED,hs,Ce hh];omega)),rfl⟩):P:=h
theorem M4{P:Prop}(h:P:=by go_meet;exact⟨congrArg Value.bool (by first|(simp[ED,ht];done)|(simp[ED,ht];omega)|(simp[ED,ht,Ce hh];done)|(simp[ED,ht,Ce hh];omega)),rfl⟩):P:=h
theorem WG{P:Prop}(h:P:=by go_wp2_with (first|(go_at_call 28;refine(BY _ _ _ _).mono ?_;rintro e w1 ⟨rfl,rfl⟩;rw[show DW 1 1 5=true from rfl])|(go_at_call 64;refine(AU _ _ Zh).mono ?_;rintro e w1 ⟨rfl,rfl⟩;first|rw[nk]|rw[nn]|rw[nh]));exact Nn):P:=h
theorem WJ{P:Prop}(h:P:=by go_wp2_with (first|(go_at_call 28;refine(BY _ _ _ _).mono ?_;rintro e w1 ⟨rfl,rfl⟩;rw[show DW 2 1 5=true from rfl])|(go_at_call 64;refine(AU _ _ Zh).mono ?_;rintro e w1 ⟨rfl,rfl⟩;first|rw[nk]|rw[nn]|rw[nh]));exact Nn):P:=h
theorem YI{P:Prop}(h:P:=by go_wp2_with (first|(go_at_call 28;refine(BY _ _ _ _).mono ?_;rintro e w1 ⟨rfl,rfl⟩;rw[show DW 3 1 5=true from rfl])|(go_at_call 64;refine(AU _ _ Zh).mono ?_;rintro e w1 ⟨rfl,rfl⟩;first|rw[nk]|rw[nn]|rw[nh]));exact Nn):P:=h
theorem YM{P:Prop}(h:P:=by go_wp2_with (first|(go_at_call 28;refine(BY _ _ _ _).mono ?_;rintro e w1 ⟨rfl,rfl⟩;rw[show DW 4 1 5=true from rfl])|(go_at_call 64;refine(AU _ _ Zh).mono ?_;rintro e w1 ⟨rfl,rfl⟩;first|rw[nk]|rw[nn]|rw[nh]));exact Nn):P:=h
theorem Tt{P:Prop}(h:P:=by go_wp2_with (first|(go_at_call 28;refine(BY _ _ _ _).mono ?_;rintro e w1 ⟨rfl,rfl⟩;rw[show DW 5 1 5=true from rfl])|(go_at_call 64;refine(AU _ _ Zh).mono ?_;rintro e w1 ⟨rfl,rfl⟩;first|rw[nk]|rw[nn]|rw[nh]));exact Nn):P:=h
theorem MY{P:Prop}(h:P:=by go_wp2;go_ret;exact⟨Av (HE.trans (by simp[Gi,LO,hho])).symm,Am _ _⟩):P:=h
theorem MT{P:Prop}(h:P:=by go_wp2;go_ret;exact⟨Av (HE.trans (by simp[Gi,LO])).symm,Am _ _⟩):P:=h
theorem P4{P:Prop}(h:P:=by go_wp2;go_ret;exact⟨Av (HE.trans (by simp[Gi,LO,hte])).symm,Am _ _⟩):P:=h
theorem Fw (w:Wr)(hf:Ml w)(W:World):Calls prog 40 #[.agg (vW w)] W λe w'=>e=.returned (.bool (EU w))/\Below W.1.size W w':=by obtain⟨op,ki,na,se,te,ho⟩:=w;have htx:=hf.t;dsimp only at htx⊢;cases hin:DW op 1 5 with
 |false=>have HE:=Ag (show EU ⟨op,ki,na,se,te,ho⟩=false by unfold EU;rw[Z7 (w:=⟨op,ki,na,se,te,ho⟩) hin];simp);go_enter func40,ntmps40;go_wp2_with (go_at_call 28;refine(BY _ _ _ _).mono ?_;rintro e w1 ⟨rfl,rfl⟩;rw[hin]);go_ret;exact⟨Av HE.symm,Am _ _⟩
 |true=>
 have hop:op=1\/op=2\/op=3\/op=4\/op=5:=by unfold DW at hin;simp at hin;omega
 clear hin;rcases hop with rfl|rfl|rfl|rfl|rfl
 .go_enter func40,ntmps40;go_upto_region 1 with fail;go_cut[42]from 5 to 94 (λs42 wx=>s42=.bool (!ED ⟨1,ki,na,se,te,ho⟩)/\W.alloc (.cells #[.i 1,.s ki,.s na,.i se,.s te,.s ho] 36)=wx);case first=>cases nk:By ki with
   |false=>go_wp2_with (first|(go_at_call 28;refine(BY _ _ _ _).mono ?_;rintro e w1 ⟨rfl,rfl⟩;rw[show DW 1 1 5=true from rfl])|(go_at_call 64;refine(AU _ _ Zh).mono ?_;rintro e w1 ⟨rfl,rfl⟩;first|rw[nk]|rw[nn]|rw[nh]));exact Nv
   |true=>cases nn:By na with
   |false=>go_wp2_with (first|(go_at_call 28;refine(BY _ _ _ _).mono ?_;rintro e w1 ⟨rfl,rfl⟩;rw[show DW 1 1 5=true from rfl])|(go_at_call 64;refine(AU _ _ Zh).mono ?_;rintro e w1 ⟨rfl,rfl⟩;first|rw[nk]|rw[nn]|rw[nh]));exact Oc
   |true=>
   by_cases hs:0<=se;case neg=>have hs2:se<0:=Zb;go_wp2_with (first|(go_at_call 28;refine(BY _ _ _ _).mono ?_;rintro e w1 ⟨rfl,rfl⟩;rw[show DW 1 1 5=true from rfl])|(go_at_call 64;refine(AU _ _ Zh).mono ?_;rintro e w1 ⟨rfl,rfl⟩;first|rw[nk]|rw[nn]|rw[nh]));exact Np
   have hs2:¬se<0:=Zb;by_cases ht:te.size<=300;case neg=>have ht2:(300:Int)<te.size:=Zb;go_wp2_with (first|(go_at_call 28;refine(BY _ _ _ _).mono ?_;rintro e w1 ⟨rfl,rfl⟩;rw[show DW 1 1 5=true from rfl])|(go_at_call 64;refine(AU _ _ Zh).mono ?_;rintro e w1 ⟨rfl,rfl⟩;first|rw[nk]|rw[nn]|rw[nh]));exact M4
   have ht2:¬(300:Int)<te.size:=Zb;by_cases hh:ho=⟨#[]⟩
   .subst hh;go_wp2_with (first|(go_at_call 28;refine(BY _ _ _ _).mono ?_;rintro e w1 ⟨rfl,rfl⟩;rw[show DW 1 1 5=true from rfl])|(go_at_call 64;refine(AU _ _ Zh).mono ?_;rintro e w1 ⟨rfl,rfl⟩;first|rw[nk]|rw[nn]|rw[nh]));exact NZ
   .have hhb:=JC hh;have hhl:=Ce hh;cases nh:By ho with
    |false=>exact WG
    |true=>exact WG
  case rest=>obtain⟨rfl,rfl⟩:=hcut;cases hcm:ED ⟨1,ki,na,se,te,ho⟩with
   |false=>have HE:=Ag (show EU ⟨1,ki,na,se,te,ho⟩=false by unfold EU;rw[hcm];rfl);go_wp2;go_ret;exact⟨Av HE.symm,Am _ _⟩
   |true=>
    have CT:=Ag hcm;clear hcm;by_cases hs:se=0;.subst hs;have HE:=Ag (show EU ⟨1,ki,na,0,te,ho⟩=Gi ⟨1,ki,na,0,te,ho⟩by unfold EU;rw[CT.out];rfl);go_wp2;go_ret;exact⟨Av (HE.trans (by simp[Gi])).symm,Am _ _⟩
    .have hsb:(se !=0)=true:=by simp[hs]
     have HE:=Ag (show EU ⟨1,ki,na,se,te,ho⟩=Gi ⟨1,ki,na,se,te,ho⟩by unfold EU;rw[CT.out];rfl);go_wp2;go_ret;exact⟨Av (HE.trans (by simp[Gi,hs])).symm,Am _ _⟩
 .go_enter func40,ntmps40;go_upto_region 1 with fail;go_cut[42]from 5 to 94 (λs42 wx=>s42=.bool (!ED ⟨2,ki,na,se,te,ho⟩)/\W.alloc (.cells #[.i 2,.s ki,.s na,.i se,.s te,.s ho] 36)=wx);case first=>cases nk:By ki with
   |false=>go_wp2_with (first|(go_at_call 28;refine(BY _ _ _ _).mono ?_;rintro e w1 ⟨rfl,rfl⟩;rw[show DW 2 1 5=true from rfl])|(go_at_call 64;refine(AU _ _ Zh).mono ?_;rintro e w1 ⟨rfl,rfl⟩;first|rw[nk]|rw[nn]|rw[nh]));exact Nv
   |true=>cases nn:By na with
   |false=>go_wp2_with (first|(go_at_call 28;refine(BY _ _ _ _).mono ?_;rintro e w1 ⟨rfl,rfl⟩;rw[show DW 2 1 5=true from rfl])|(go_at_call 64;refine(AU _ _ Zh).mono ?_;rintro e w1 ⟨rfl,rfl⟩;first|rw[nk]|rw[nn]|rw[nh]));exact Oc
   |true=>
   by_cases hs:0<=se;case neg=>have hs2:se<0:=Zb;go_wp2_with (first|(go_at_call 28;refine(BY _ _ _ _).mono ?_;rintro e w1 ⟨rfl,rfl⟩;rw[show DW 2 1 5=true from rfl])|(go_at_call 64;refine(AU _ _ Zh).mono ?_;rintro e w1 ⟨rfl,rfl⟩;first|rw[nk]|rw[nn]|rw[nh]));exact Np
   have hs2:¬se<0:=Zb;by_cases ht:te.size<=300;case neg=>have ht2:(300:Int)<te.size:=Zb;go_wp2_with (first|(go_at_call 28;refine(BY _ _ _ _).mono ?_;rintro e w1 ⟨rfl,rfl⟩;rw[show DW 2 1 5=true from rfl])|(go_at_call 64;refine(AU _ _ Zh).mono ?_;rintro e w1 ⟨rfl,rfl⟩;first|rw[nk]|rw[nn]|rw[nh]));exact M4
   have ht2:¬(300:Int)<te.size:=Zb;by_cases hh:ho=⟨#[]⟩;.subst hh;go_wp2_with (first|(go_at_call 28;refine(BY _ _ _ _).mono ?_;rintro e w1 ⟨rfl,rfl⟩;rw[show DW 2 1 5=true from rfl])|(go_at_call 64;refine(AU _ _ Zh).mono ?_;rintro e w1 ⟨rfl,rfl⟩;first|rw[nk]|rw[nn]|rw[nh]));exact NZ
   .have hhb:=JC hh;have hhl:=Ce hh;cases nh:By ho with
    |false=>exact WJ
    |true=>exact WJ
  case rest=>obtain⟨rfl,rfl⟩:=hcut;cases hcm:ED ⟨2,ki,na,se,te,ho⟩with
   |false=>have HE:=Ag (show EU ⟨2,ki,na,se,te,ho⟩=false by unfold EU;rw[hcm];rfl);go_wp2;go_ret;exact⟨Av HE.symm,Am _ _⟩
   |true=>
    have CT:=Ag hcm;clear hcm;by_cases hho:ho=⟨#[]⟩;.subst hho;have HE:=Ag (show EU ⟨2,ki,na,se,te,⟨#[]⟩⟩=Gi ⟨2,ki,na,se,te,⟨#[]⟩⟩by unfold EU;rw[CT.out];rfl);exact MT
    .have hhob:=JC hho;have hhoe:ho.toList.isEmpty=false:=by simp[Ce hho]
     have hhol:=Ce hho;have HE:=Ag (show EU ⟨2,ki,na,se,te,ho⟩=Gi ⟨2,ki,na,se,te,ho⟩by unfold EU;rw[CT.out];rfl);exact MY
 .go_enter func40,ntmps40;go_upto_region 1 with fail;go_cut[42]from 5 to 94 (λs42 wx=>s42=.bool (!ED ⟨3,ki,na,se,te,ho⟩)/\W.alloc (.cells #[.i 3,.s ki,.s na,.i se,.s te,.s ho] 36)=wx);case first=>cases nk:By ki with
   |false=>go_wp2_with (first|(go_at_call 28;refine(BY _ _ _ _).mono ?_;rintro e w1 ⟨rfl,rfl⟩;rw[show DW 3 1 5=true from rfl])|(go_at_call 64;refine(AU _ _ Zh).mono ?_;rintro e w1 ⟨rfl,rfl⟩;first|rw[nk]|rw[nn]|rw[nh]));exact Nv
   |true=>cases nn:By na with
   |false=>go_wp2_with (first|(go_at_call 28;refine(BY _ _ _ _).mono ?_;rintro e w1 ⟨rfl,rfl⟩;rw[show DW 3 1 5=true from rfl])|(go_at_call 64;refine(AU _ _ Zh).mono ?_;rintro e w1 ⟨rfl,rfl⟩;first|rw[nk]|rw[nn]|rw[nh]));exact Oc
   |true=>
   by_cases hs:0<=se;case neg=>have hs2:se<0:=Zb;go_wp2_with (first|(go_at_call 28;refine(BY _ _ _ _).mono ?_;rintro e w1 ⟨rfl,rfl⟩;rw[show DW 3 1 5=true from rfl])|(go_at_call 64;refine(AU _ _ Zh).mono ?_;rintro e w1 ⟨rfl,rfl⟩;first|rw[nk]|rw[nn]|rw[nh]));exact Np
   have hs2:¬se<0:=Zb;by_cases ht:te.size<=300;case neg=>have ht2:(300:Int)<te.size:=Zb;go_wp2_with (first|(go_at_call 28;refine(BY _ _ _ _).mono ?_;rintro e w1 ⟨rfl,rfl⟩;rw[show DW 3 1 5=true from rfl])|(go_at_call 64;refine(AU _ _ Zh).mono ?_;rintro e w1 ⟨rfl,rfl⟩;first|rw[nk]|rw[nn]|rw[nh]));exact M4
   have ht2:¬(300:Int)<te.size:=Zb;by_cases hh:ho=⟨#[]⟩;.subst hh;go_wp2_with (first|(go_at_call 28;refine(BY _ _ _ _).mono ?_;rintro e w1 ⟨rfl,rfl⟩;rw[show DW 3 1 5=true from rfl])|(go_at_call 64;refine(AU _ _ Zh).mono ?_;rintro e w1 ⟨rfl,rfl⟩;first|rw[nk]|rw[nn]|rw[nh]));exact NZ
   .have hhb:=JC hh;have hhl:=Ce hh;cases nh:By ho with
    |false=>exact YI
    |true=>exact YI
  case rest=>obtain⟨rfl,rfl⟩:=hcut;cases hcm:ED ⟨3,ki,na,se,te,ho⟩with
   |false=>have HE:=Ag (show EU ⟨3,ki,na,se,te,ho⟩=false by unfold EU;rw[hcm];rfl);go_wp2;go_ret;exact⟨Av HE.symm,Am _ _⟩
   |true=>
    have CT:=Ag hcm;clear hcm;by_cases hte:te=⟨#[]⟩
    .subst hte;by_cases hho:ho=⟨#[]⟩
     .subst hho;have HE:=Ag (show EU ⟨3,ki,na,se,⟨#[]⟩,⟨#[]⟩⟩=Gi ⟨3,ki,na,se,⟨#[]⟩,⟨#[]⟩⟩by unfold EU;rw[CT.out];rfl);exact MT
     .have hhob:=JC hho;have hhoe:ho.toList.isEmpty=false:=by simp[Ce hho]
      have hhol:=Ce hho;have HE:=Ag (show EU ⟨3,ki,na,se,⟨#[]⟩,ho⟩=Gi ⟨3,ki,na,se,⟨#[]⟩,ho⟩by unfold EU;rw[CT.out];rfl);exact MY
    .have hteb:=JC hte;have htee:te.toList.isEmpty=false:=by simp[Ce hte]
     have htel:=Ce hte;have HE:=Ag (show EU ⟨3,ki,na,se,te,ho⟩=Gi ⟨3,ki,na,se,te,ho⟩by unfold EU;rw[CT.out];rfl);exact P4
 .go_enter func40,ntmps40;go_upto_region 1 with fail;go_cut[42]from 5 to 94 (λs42 wx=>s42=.bool (!ED ⟨4,ki,na,se,te,ho⟩)/\W.alloc (.cells #[.i 4,.s ki,.s na,.i se,.s te,.s ho] 36)=wx);case first=>cases nk:By ki with
   |false=>go_wp2_with (first|(go_at_call 28;refine(BY _ _ _ _).mono ?_;rintro e w1 ⟨rfl,rfl⟩;rw[show DW 4 1 5=true from rfl])|(go_at_call 64;refine(AU _ _ Zh).mono ?_;rintro e w1 ⟨rfl,rfl⟩;first|rw[nk]|rw[nn]|rw[nh]));exact Nv
   |true=>cases nn:By na with
   |false=>go_wp2_with (first|(go_at_call 28;refine(BY _ _ _ _).mono ?_;rintro e w1 ⟨rfl,rfl⟩;rw[show DW 4 1 5=true from rfl])|(go_at_call 64;refine(AU _ _ Zh).mono ?_;rintro e w1 ⟨rfl,rfl⟩;first|rw[nk]|rw[nn]|rw[nh]));exact Oc
   |true=>
   by_cases hs:0<=se;case neg=>have hs2:se<0:=Zb;go_wp2_with (first|(go_at_call 28;refine(BY _ _ _ _).mono ?_;rintro e w1 ⟨rfl,rfl⟩;rw[show DW 4 1 5=true from rfl])|(go_at_call 64;refine(AU _ _ Zh).mono ?_;rintro e w1 ⟨rfl,rfl⟩;first|rw[nk]|rw[nn]|rw[nh]));exact Np
   have hs2:¬se<0:=Zb;by_cases ht:te.size<=300;case neg=>have ht2:(300:Int)<te.size:=Zb;go_wp2_with (first|(go_at_call 28;refine(BY _ _ _ _).mono ?_;rintro e w1 ⟨rfl,rfl⟩;rw[show DW 4 1 5=true from rfl])|(go_at_call 64;refine(AU _ _ Zh).mono ?_;rintro e w1 ⟨rfl,rfl⟩;first|rw[nk]|rw[nn]|rw[nh]));exact M4
   have ht2:¬(300:Int)<te.size:=Zb;by_cases hh:ho=⟨#[]⟩
   .subst hh;go_wp2_with (first|(go_at_call 28;refine(BY _ _ _ _).mono ?_;rintro e w1 ⟨rfl,rfl⟩;rw[show DW 4 1 5=true from rfl])|(go_at_call 64;refine(AU _ _ Zh).mono ?_;rintro e w1 ⟨rfl,rfl⟩;first|rw[nk]|rw[nn]|rw[nh]));exact NZ
   .have hhb:=JC hh;have hhl:=Ce hh;cases nh:By ho with
    |false=>exact YM
    |true=>exact YM
  case rest=>obtain⟨rfl,rfl⟩:=hcut;cases hcm:ED ⟨4,ki,na,se,te,ho⟩with
   |false=>have HE:=Ag (show EU ⟨4,ki,na,se,te,ho⟩=false by unfold EU;rw[hcm];rfl);go_wp2;go_ret;exact⟨Av HE.symm,Am _ _⟩
   |true=>
    have CT:=Ag hcm;clear hcm;by_cases hte:te=⟨#[]⟩
    .subst hte;by_cases hho:ho=⟨#[]⟩;.subst hho;have HE:=Ag (show EU ⟨4,ki,na,se,⟨#[]⟩,⟨#[]⟩⟩=Gi ⟨4,ki,na,se,⟨#[]⟩,⟨#[]⟩⟩by unfold EU;rw[CT.out];rfl);exact MT
     .have hhob:=JC hho;have hhoe:ho.toList.isEmpty=false:=by simp[Ce hho]
      have hhol:=Ce hho;have HE:=Ag (show EU ⟨4,ki,na,se,⟨#[]⟩,ho⟩=Gi ⟨4,ki,na,se,⟨#[]⟩,ho⟩by unfold EU;rw[CT.out];rfl);exact MY
    .have hteb:=JC hte;have htee:te.toList.isEmpty=false:=by simp[Ce hte]
     have htel:=Ce hte;have HE:=Ag (show EU ⟨4,ki,na,se,te,ho⟩=Gi ⟨4,ki,na,se,te,ho⟩by unfold EU;rw[CT.out];rfl);exact P4
 .go_enter func40,ntmps40;go_upto_region 1 with fail;go_cut[42]from 5 to 94 (λs42 wx=>s42=.bool (!ED ⟨5,ki,na,se,te,ho⟩)/\W.alloc (.cells #[.i 5,.s ki,.s na,.i se,.s te,.s ho] 36)=wx);case first=>cases nk:By ki with
   |false=>go_wp2_with (first|(go_at_call 28;refine(BY _ _ _ _).mono ?_;rintro e w1 ⟨rfl,rfl⟩;rw[show DW 5 1 5=true from rfl])|(go_at_call 64;refine(AU _ _ Zh).mono ?_;rintro e w1 ⟨rfl,rfl⟩;first|rw[nk]|rw[nn]|rw[nh]));exact Nv
   |true=>cases nn:By na with
   |false=>go_wp2_with (first|(go_at_call 28;refine(BY _ _ _ _).mono ?_;rintro e w1 ⟨rfl,rfl⟩;rw[show DW 5 1 5=true from rfl])|(go_at_call 64;refine(AU _ _ Zh).mono ?_;rintro e w1 ⟨rfl,rfl⟩;first|rw[nk]|rw[nn]|rw[nh]));exact Oc
   |true=>
   by_cases hs:0<=se;case neg=>have hs2:se<0:=Zb;go_wp2_with (first|(go_at_call 28;refine(BY _ _ _ _).mono ?_;rintro e w1 ⟨rfl,rfl⟩;rw[show DW 5 1 5=true from rfl])|(go_at_call 64;refine(AU _ _ Zh).mono ?_;rintro e w1 ⟨rfl,rfl⟩;first|rw[nk]|rw[nn]|rw[nh]));exact Np
   have hs2:¬se<0:=Zb;by_cases ht:te.size<=300;case neg=>have ht2:(300:Int)<te.size:=Zb;go_wp2_with (first|(go_at_call 28;refine(BY _ _ _ _).mono ?_;rintro e w1 ⟨rfl,rfl⟩;rw[show DW 5 1 5=true from rfl])|(go_at_call 64;refine(AU _ _ Zh).mono ?_;rintro e w1 ⟨rfl,rfl⟩;first|rw[nk]|rw[nn]|rw[nh]));exact M4
   have ht2:¬(300:Int)<te.size:=Zb;by_cases hh:ho=⟨#[]⟩
   .subst hh;go_wp2_with (first|(go_at_call 28;refine(BY _ _ _ _).mono ?_;rintro e w1 ⟨rfl,rfl⟩;rw[show DW 5 1 5=true from rfl])|(go_at_call 64;refine(AU _ _ Zh).mono ?_;rintro e w1 ⟨rfl,rfl⟩;first|rw[nk]|rw[nn]|rw[nh]));exact NZ
   .have hhb:=JC hh;have hhl:=Ce hh;cases nh:By ho with
    |false=>exact Tt
    |true=>exact Tt
  case rest=>obtain⟨rfl,rfl⟩:=hcut;cases hcm:ED ⟨5,ki,na,se,te,ho⟩with
   |false=>have HE:=Ag (show EU ⟨5,ki,na,se,te,ho⟩=false by unfold EU;rw[hcm];rfl);go_wp2;go_ret;exact⟨Av HE.symm,Am _ _⟩
   |true=>
    have CT:=Ag hcm;clear hcm;by_cases hte:te=⟨#[]⟩
    .subst hte;by_cases hho:ho=⟨#[]⟩;.subst hho;have HE:=Ag (show EU ⟨5,ki,na,se,⟨#[]⟩,⟨#[]⟩⟩=Gi ⟨5,ki,na,se,⟨#[]⟩,⟨#[]⟩⟩by unfold EU;rw[CT.out];rfl);exact MT
     .have hhob:=JC hho;have hhoe:ho.toList.isEmpty=false:=by simp[Ce hho]
      have hhol:=Ce hho;have HE:=Ag (show EU ⟨5,ki,na,se,⟨#[]⟩,ho⟩=Gi ⟨5,ki,na,se,⟨#[]⟩,ho⟩by unfold EU;rw[CT.out];rfl);exact MY
    .have hteb:=JC hte;have htee:te.toList.isEmpty=false:=by simp[Ce hte]
     have htel:=Ce hte;have HE:=Ag (show EU ⟨5,ki,na,se,te,ho⟩=Gi ⟨5,ki,na,se,te,ho⟩by unfold EU;rw[CT.out];rfl);exact P4
end Go.Proofs.YtofencldleijcaaGreat
namespace Go.Proofs.YtofencldleijcaaGreat
open Go.RowKit Go.Maps Go.Proofs.Tryz
def ZH:Bk:=⟨0,0,0,λ_=>Z8,0,λ_=>⟨0,false,Z8⟩,0,λ_=>⟨⟨#[]⟩,0,⟨#[]⟩,0,0⟩⟩
theorem YX{v:Wr}(h:EU v=true):v.op=1\/v.op=2\/v.op=3\/v.op=4\/v.op=5:=by
 unfold EU at h;rw[Ak]at h;have h2:=h.2;unfold Gi at h2;split at h2;.exact AO ‹_›
 .split at h2;.exact AD (AO ‹_›)
  .split at h2;.exact AD (AD (AO ‹_›))
   .split at h2;.exact AD (AD (AD (AO ‹_›)))
    .split at h2;.exact AD (AD (AD (AD ‹_›)))
     .cases h2
end Go.Proofs.YtofencldleijcaaGreat
