import Derived.Test.YtnnjcenacidceaaGreatPk18
import Derived.Laws.EntriesVeiled
import Derived.Test.YtnnjcenacidceaaGreatPk12
import Derived.Deep.Cut
import Derived.Deep.CutRange
import Derived.Deep.MidRow
import Derived.WalkKit
import Derived.LaidEql
import Derived.Stop.Asserts
import Derived.RowKitTokens
set_option maxRecDepth 100000
set_option maxHeartbeats 4000000
namespace Go.Proofs.YtnnjcenacidceaaGreat
open Go.RowKit Go.Maps Go.Proofs.Tryz
def cD (x:Nat->Ob)(ki na:ByteArray):Nat->Nat
 |0=>0
 |n+1=>if cD x ki na n=n/\Uu x ki na n<0 then n+1 else cD x ki na n
theorem fG (x:Nat->Ob)(ki na:ByteArray):∀n,cD x ki na n<=n/\(∀j,j<cD x ki na n->Uu x ki na j<0)/\(cD x ki na n<n->¬Uu x ki na (cD x ki na n)<0)
 |0=>⟨AG _,λj hj=>absurd hj (Ai _),λh=>absurd h (Ai _)⟩
 |n+1=>by
  obtain⟨h1,h2,h3⟩:=fG x ki na n;unfold cD;by_cases e:cD x ki na n=n/\Uu x ki na n<0
  .rw[if_pos e];refine⟨AG _,λj hj=>?_,λh=>absurd h (AY _)⟩;rcases Aw j n with h|h;.exact h2 j Za
   .obtain rfl:j=n:=Za;exact e.2
  .rw[if_neg e];refine⟨Za,h2,λ_=>?_⟩;rcases Aw (cD x ki na n) n with h|h;.exact h3 h
   .have e1:cD x ki na n=n:=Za;rw[e1];exact λhx=>e ⟨e1,hx⟩
def nN (B:Bk)(v:Wr):Nat:=cD B.os v.kind v.name B.on
def yS (B:Bk)(v:Wr):Bool:=decide (nN B v<B.on)&&decide (Uu B.os v.kind v.name (nN B v)=0)
theorem aK{B:Bk}{v:Wr}(hok:Nj B v):T2 B v (nN B v):=by
 obtain⟨h1,h2,h3⟩:=fG B.os v.kind v.name B.on;refine⟨h1,h2,λj hj hn hx=>?_⟩;rcases Nat.eq_or_lt_of_le hj with e|e;.subst e;exact h3 hn hx
 .exact h3 (Nat.lt_trans e hn) (qG hok _ j e hn hx)
structure WS (w:World)(K g:Nat)(B:Bk)(v:Wr)(L:List EO)(a1:OA)(c1:Nat)(k1 k3 k4:Value):Prop where
 kr:AN w K 5 (AW [.i B.now,k1,.l a1 B.on c1,k3,k4])row:aT w a1 g c1 L
 ol:L.map EO.ob=Nh B.on B.os
 hold:∀e∈L,AD w 0 w.1.size e.A e.ob.hn e.ob.hs
 cap:∀e∈L,Lh w e.ob.hn e.A e.C
 ok:Nj B v
theorem WS.dk{w X:World}{K g:Nat}{B:Bk}{v:Wr}{L:List EO}{a1:OA}{c1:Nat}{k1 k3 k4:Value}(h:WS w K g B v L a1 c1 k1 k3 k4)(hb:Below w.1.size w X){D:Nat}(hd:NU X D K v (nN B v:Nat) (yS B v))(hD:D<X.1.size):Pp X D K g B v L a1 c1 (nN B v) (yS B v):=have r:=h.kr.below hb h.kr.lt
 ⟨hd,hD,r.lt,r.cell 0 Zb,r.cell 2 Zb,h.row.grow hb,h.ol,λe he=>((h.hold e he).below hb AQ).mono AQ hb.size,λe he=>(h.cap e he).grow hb.size,aK h.ok,rfl,h.ok⟩
theorem WS.objs{w:World}{K g:Nat}{B:Bk}{v:Wr}{L:List EO}{a1:OA}{c1:Nat}{k1 k3 k4:Value}(h:WS w K g B v L a1 c1 k1 k3 k4):BS w 0 w.1.size a1 B.on B.os:=λi hi=>by
 have hlen:L.length=B.on:=by have:=congrArg List.length h.ol;simpa[Nh]using this
 rcases h.row with⟨_,e2,_⟩|⟨e1,e2,_⟩;.rw[e2]at hlen;simp at hlen;omega
 .have h1:=e2.ob i Za;have h2:=h.hold _ (Yb (L:=L) (i:=i) Za);have h3:(U7 L i).ob=B.os i:=by have h4:=XX (L:=L) (i:=i) Za;rw[h.ol]at h4;simpa[Nh,hi]using h4.symm
  rw[h3]at h1 h2;exact⟨g,0,_,_,e1,At _,e2.lt,by rw[Bd];exact h1,h2⟩
def xF (B:Bk)(v:Wr)(L:List EO)(w X:World)(E:EO):Prop:=E.ob=M8 B v (BY B v).ver/\(AD X 0 X.1.size E.A E.ob.hn E.ob.hs/\Lh X E.ob.hn E.A E.C)/\(((v.op=2\/v.op=3)/\E.A=(U7 L (nN B v)).A/\E.C=(U7 L (nN B v)).C/\E.hb=(U7 L (nN B v)).hb)\/(¬v.op=2/\¬v.op=3/\w.1.size<=E.hb/\(E.ob.hn≠0->E.hb<X.1.size)/\Bp X E.hb (E.hb+1) E.A E.ob.hn E.ob.hs))
theorem xF.grow{B:Bk}{v:Wr}{L:List EO}{w X Y:World}{E:EO}(h:xF B v L w X E)(hb:Below X.1.size X Y):xF B v L w Y E:=by
 obtain⟨h1,h2,h3⟩:=h;refine⟨h1,⟨(h2.1.below hb AQ).mono AQ hb.size,h2.2.grow hb.size⟩,?_⟩;rcases h3 with h3|⟨q1,q2,q3,q4,q5⟩;.exact AB h3
 .exact AE ⟨q1,q2,q3,λh0=>Ad (q4 h0) hb.size,q5.frP (Ar (P:=λ_=>False) hb) (λh0=>⟨id,q4 h0⟩)⟩
end Go.Proofs.YtnnjcenacidceaaGreat
namespace Go.Proofs.YtnnjcenacidceaaGreat
open Go.RowKit Go.Maps Go.Proofs.Tryz
/-! the objects behind a write,as a list -/
theorem eL{x z:Ob}(h1:x.kind.toList=z.kind.toList)(h2:x.name.toList=z.name.toList):Fi x z=false:=by unfold Fi;rw[if_pos h1];exact L3 h2
theorem lD{B:Bk}{v:Wr}(hf:B4 B.os v.kind v.name B.on=true\/v.op=1):(Cv B v).kind=v.kind/\(Cv B v).name=v.name:=by
 by_cases h1:v.op=1;.unfold Cv M8;rw[if_pos h1];exact⟨rfl,rfl⟩
 .have hf:B4 B.os v.kind v.name B.on=true:=hf.resolve_right h1;have hk:(BY B v).kind=v.kind/\(BY B v).name=v.name:=by unfold BY Cu;unfold B4 at hf;cases hx:Nq B.os v.kind v.name B.on with
   |none=>rw[hx]at hf;cases hf
   |some i=>exact(OU hx).2
  unfold Cv M8;rw[if_neg h1];split;.exact hk
  .split;.exact hk
   .split<;>exact hk
theorem U5{B:Bk}{v:Wr}(hc:BN B v=0):B4 B.os v.kind v.name B.on=true\/v.op=1:=by cases hf:B4 B.os v.kind v.name B.on with
 |true=>exact AB rfl
 |false=>
  refine AE ?_;by_cases h:v.op=1;.exact h
  .have:=(XV hf h).1;unfold BN at hc;rw[this,if_neg Zb]at hc;exact absurd hc Zb
end Go.Proofs.YtnnjcenacidceaaGreat
namespace Go.Proofs.YtnnjcenacidceaaGreat
open Go.RowKit Go.Maps Go.Proofs.Tryz
theorem Lc.congr{w:World}{ad:OA}{g n m:Nat}{x y:Nat->Ob}{A:Nat->Option Addr}{C hb:Nat->Nat}(h:Lc w ad g n x A C hb)(hn:n=m)(he:∀i,i<m->x i=y i):Lc w ad g m y A C hb:=by subst hn;refine⟨h.addr,λh0=>?_,λi hi=>by rw[<-he i hi];exact h.hold i hi,λi hi h0=>h.hlt i hi (by rw[he i hi];exact h0),⟨λi hi h0=>h.ap.ne i hi (by rw[he i hi];exact h0),λi j hi hj h1 h2 e=>h.ap.inj i j hi hj (by rw[he i hi];exact h1) (by rw[he j hj];exact h2) e⟩⟩;obtain⟨c,r,hat⟩:=h.row h0;exact⟨c,r,λi hi=>by rw[<-he i hi];exact hat i hi⟩
end Go.Proofs.YtnnjcenacidceaaGreat
namespace Go.Proofs.YtnnjcenacidceaaGreat
open Go.RowKit Go.Proofs.Tryz
theorem kX{w:Wr}(h:EX w.op 1 5=false):LR w=false:=by unfold EX at h;simp at h;unfold LR;rw[if_neg Za,if_neg Za,if_neg Za,if_neg Za,if_neg Za]
theorem RI{P:Prop}(h:P:=by go_meet;exact⟨congrArg Value.bool (by first|(simp[KG,nk,nn,hs,ht,PP,hh,nh];done)|(simp[KG,nk,nn,hs,ht,PP,hh,nh];omega)|(simp[KG,nk,nn,hs,ht,PP,hh,nh,B8 hh];done)|(simp[KG,nk,nn,hs,ht,PP,hh,nh,B8 hh];omega)),rfl⟩):P:=h
theorem Rx{P:Prop}(h:P:=by go_meet;exact⟨congrArg Value.bool (by first|(simp[KG,nk,nn,hs,ht,PP];done)|(simp[KG,nk,nn,hs,ht,PP];omega)|(simp[KG,nk,nn,hs,ht,PP,B8 hh];done)|(simp[KG,nk,nn,hs,ht,PP,B8 hh];omega)),rfl⟩):P:=h
theorem RH{P:Prop}(h:P:=by go_meet;exact⟨congrArg Value.bool (by first|(simp[KG,nk];done)|(simp[KG,nk];omega)|(simp[KG,nk,B8 hh];done)|(simp[KG,nk,B8 hh];omega)),rfl⟩):P:=h
theorem Rv{P:Prop}(h:P:=by go_meet;exact⟨congrArg Value.bool (by first|(simp[KG,nn];done)|(simp[KG,nn];omega)|(simp[KG,nn,B8 hh];done)|(simp[KG,nn,B8 hh];omega)),rfl⟩):P:=h
theorem Rt{P:Prop}(h:P:=by go_meet;exact⟨congrArg Value.bool (by first|(simp[KG,hs];done)|(simp[KG,hs];omega)|(simp[KG,hs,B8 hh];done)|(simp[KG,hs,B8 hh];omega)),rfl⟩):P:=h
theorem Sn{P:Prop}(h:P:=by go_meet;exact⟨congrArg Value.bool (by first|(simp[KG,ht];done)|(simp[KG,ht];omega)|(simp[KG,ht,B8 hh];done)|(simp[KG,ht,B8 hh];omega)),rfl⟩):P:=h
theorem eW{P:Prop}(h:P:=by go_wp2_with (first|(go_at_call 21;refine(BV _ _ _ _).mono ?_;rintro e w1 ⟨rfl,rfl⟩;rw[show EX 1 1 5=true from rfl])|(go_at_call 55;refine(A7 _ _ Zh).mono ?_;rintro e w1 ⟨rfl,rfl⟩;first|rw[nk]|rw[nn]|rw[nh]));exact RI):P:=h
theorem dL{P:Prop}(h:P:=by go_wp2_with (first|(go_at_call 21;refine(BV _ _ _ _).mono ?_;rintro e w1 ⟨rfl,rfl⟩;rw[show EX 2 1 5=true from rfl])|(go_at_call 55;refine(A7 _ _ Zh).mono ?_;rintro e w1 ⟨rfl,rfl⟩;first|rw[nk]|rw[nn]|rw[nh]));exact RI):P:=h
theorem gZ{P:Prop}(h:P:=by go_wp2_with (first|(go_at_call 21;refine(BV _ _ _ _).mono ?_;rintro e w1 ⟨rfl,rfl⟩;rw[show EX 3 1 5=true from rfl])|(go_at_call 55;refine(A7 _ _ Zh).mono ?_;rintro e w1 ⟨rfl,rfl⟩;first|rw[nk]|rw[nn]|rw[nh]));exact RI):P:=h
theorem gE{P:Prop}(h:P:=by go_wp2_with (first|(go_at_call 21;refine(BV _ _ _ _).mono ?_;rintro e w1 ⟨rfl,rfl⟩;rw[show EX 4 1 5=true from rfl])|(go_at_call 55;refine(A7 _ _ Zh).mono ?_;rintro e w1 ⟨rfl,rfl⟩;first|rw[nk]|rw[nn]|rw[nh]));exact RI):P:=h
theorem XM{P:Prop}(h:P:=by go_wp2_with (first|(go_at_call 21;refine(BV _ _ _ _).mono ?_;rintro e w1 ⟨rfl,rfl⟩;rw[show EX 5 1 5=true from rfl])|(go_at_call 55;refine(A7 _ _ Zh).mono ?_;rintro e w1 ⟨rfl,rfl⟩;first|rw[nk]|rw[nn]|rw[nh]));exact RI):P:=h
theorem QV{P:Prop}(h:P:=by go_wp2;go_ret;exact⟨Az (HE.trans (by simp[LR,PP,hho])).symm,An _ _⟩):P:=h
theorem Q4{P:Prop}(h:P:=by go_wp2;go_ret;exact⟨Az (HE.trans (by simp[LR,PP])).symm,An _ _⟩):P:=h
theorem TW{P:Prop}(h:P:=by go_wp2;go_ret;exact⟨Az (HE.trans (by simp[LR,PP,hte])).symm,An _ _⟩):P:=h
theorem LB (w:Wr)(hf:Sy w)(W:World):Calls prog 90 #[.agg (vW w)] W λe w'=>e=.returned (.bool (LF w))/\Below W.1.size W w':=by obtain⟨op,ki,na,se,te,ho⟩:=w;have htx:=hf.t;dsimp only at htx⊢;cases hin:EX op 1 5 with
 |false=>have HE:=Aj (show LF ⟨op,ki,na,se,te,ho⟩=false by unfold LF;rw[kX (w:=⟨op,ki,na,se,te,ho⟩) hin];simp);go_enter func90,ntmps90;go_wp2_with (go_at_call 21;refine(BV _ _ _ _).mono ?_;rintro e w1 ⟨rfl,rfl⟩;rw[hin]);go_ret;exact⟨Az HE.symm,An _ _⟩
 |true=>
 have hop:op=1\/op=2\/op=3\/op=4\/op=5:=by unfold EX at hin;simp at hin;omega
 clear hin;rcases hop with rfl|rfl|rfl|rfl|rfl
 .go_enter func90,ntmps90;go_upto_region 1 with fail;go_cut[42]from 5 to 94 (λs42 wx=>s42=.bool (!KG ⟨1,ki,na,se,te,ho⟩)/\W.alloc (.cells #[.i 1,.s ki,.s na,.i se,.s te,.s ho] 118)=wx);case first=>cases nk:BB ki with
   |false=>go_wp2_with (first|(go_at_call 21;refine(BV _ _ _ _).mono ?_;rintro e w1 ⟨rfl,rfl⟩;rw[show EX 1 1 5=true from rfl])|(go_at_call 55;refine(A7 _ _ Zh).mono ?_;rintro e w1 ⟨rfl,rfl⟩;first|rw[nk]|rw[nn]|rw[nh]));exact RH
   |true=>cases nn:BB na with
   |false=>go_wp2_with (first|(go_at_call 21;refine(BV _ _ _ _).mono ?_;rintro e w1 ⟨rfl,rfl⟩;rw[show EX 1 1 5=true from rfl])|(go_at_call 55;refine(A7 _ _ Zh).mono ?_;rintro e w1 ⟨rfl,rfl⟩;first|rw[nk]|rw[nn]|rw[nh]));exact Rv
   |true=>
   by_cases hs:0<=se;case neg=>have hs2:se<0:=Za;go_wp2_with (first|(go_at_call 21;refine(BV _ _ _ _).mono ?_;rintro e w1 ⟨rfl,rfl⟩;rw[show EX 1 1 5=true from rfl])|(go_at_call 55;refine(A7 _ _ Zh).mono ?_;rintro e w1 ⟨rfl,rfl⟩;first|rw[nk]|rw[nn]|rw[nh]));exact Rt
   have hs2:¬se<0:=Za;by_cases ht:te.size<=300;case neg=>have ht2:(300:Int)<te.size:=Za;go_wp2_with (first|(go_at_call 21;refine(BV _ _ _ _).mono ?_;rintro e w1 ⟨rfl,rfl⟩;rw[show EX 1 1 5=true from rfl])|(go_at_call 55;refine(A7 _ _ Zh).mono ?_;rintro e w1 ⟨rfl,rfl⟩;first|rw[nk]|rw[nn]|rw[nh]));exact Sn
   have ht2:¬(300:Int)<te.size:=Za;by_cases hh:ho=⟨#[]⟩
   .subst hh;go_wp2_with (first|(go_at_call 21;refine(BV _ _ _ _).mono ?_;rintro e w1 ⟨rfl,rfl⟩;rw[show EX 1 1 5=true from rfl])|(go_at_call 55;refine(A7 _ _ Zh).mono ?_;rintro e w1 ⟨rfl,rfl⟩;first|rw[nk]|rw[nn]|rw[nh]));exact Rx
   .have hhb:=ND hh;have hhl:=B8 hh;cases nh:BB ho with
    |false=>exact eW
    |true=>exact eW
  case rest=>obtain⟨rfl,rfl⟩:=hcut;cases hcm:KG ⟨1,ki,na,se,te,ho⟩with
   |false=>have HE:=Aj (show LF ⟨1,ki,na,se,te,ho⟩=false by unfold LF;rw[hcm];rfl);go_wp2;go_ret;exact⟨Az HE.symm,An _ _⟩
   |true=>
    have CT:=Aj hcm;clear hcm;by_cases hs:se=0;.subst hs;have HE:=Aj (show LF ⟨1,ki,na,0,te,ho⟩=LR ⟨1,ki,na,0,te,ho⟩by unfold LF;rw[CT.out];rfl);go_wp2;go_ret;exact⟨Az (HE.trans (by simp[LR])).symm,An _ _⟩
    .have hsb:(se !=0)=true:=by simp[hs]
     have HE:=Aj (show LF ⟨1,ki,na,se,te,ho⟩=LR ⟨1,ki,na,se,te,ho⟩by unfold LF;rw[CT.out];rfl);go_wp2;go_ret;exact⟨Az (HE.trans (by simp[LR,hs])).symm,An _ _⟩
 .go_enter func90,ntmps90;go_upto_region 1 with fail;go_cut[42]from 5 to 94 (λs42 wx=>s42=.bool (!KG ⟨2,ki,na,se,te,ho⟩)/\W.alloc (.cells #[.i 2,.s ki,.s na,.i se,.s te,.s ho] 118)=wx);case first=>cases nk:BB ki with
   |false=>go_wp2_with (first|(go_at_call 21;refine(BV _ _ _ _).mono ?_;rintro e w1 ⟨rfl,rfl⟩;rw[show EX 2 1 5=true from rfl])|(go_at_call 55;refine(A7 _ _ Zh).mono ?_;rintro e w1 ⟨rfl,rfl⟩;first|rw[nk]|rw[nn]|rw[nh]));exact RH
   |true=>cases nn:BB na with
   |false=>go_wp2_with (first|(go_at_call 21;refine(BV _ _ _ _).mono ?_;rintro e w1 ⟨rfl,rfl⟩;rw[show EX 2 1 5=true from rfl])|(go_at_call 55;refine(A7 _ _ Zh).mono ?_;rintro e w1 ⟨rfl,rfl⟩;first|rw[nk]|rw[nn]|rw[nh]));exact Rv
   |true=>
   by_cases hs:0<=se;case neg=>have hs2:se<0:=Za;go_wp2_with (first|(go_at_call 21;refine(BV _ _ _ _).mono ?_;rintro e w1 ⟨rfl,rfl⟩;rw[show EX 2 1 5=true from rfl])|(go_at_call 55;refine(A7 _ _ Zh).mono ?_;rintro e w1 ⟨rfl,rfl⟩;first|rw[nk]|rw[nn]|rw[nh]));exact Rt
   have hs2:¬se<0:=Za;by_cases ht:te.size<=300;case neg=>have ht2:(300:Int)<te.size:=Za;go_wp2_with (first|(go_at_call 21;refine(BV _ _ _ _).mono ?_;rintro e w1 ⟨rfl,rfl⟩;rw[show EX 2 1 5=true from rfl])|(go_at_call 55;refine(A7 _ _ Zh).mono ?_;rintro e w1 ⟨rfl,rfl⟩;first|rw[nk]|rw[nn]|rw[nh]));exact Sn
   have ht2:¬(300:Int)<te.size:=Za;by_cases hh:ho=⟨#[]⟩;.subst hh;go_wp2_with (first|(go_at_call 21;refine(BV _ _ _ _).mono ?_;rintro e w1 ⟨rfl,rfl⟩;rw[show EX 2 1 5=true from rfl])|(go_at_call 55;refine(A7 _ _ Zh).mono ?_;rintro e w1 ⟨rfl,rfl⟩;first|rw[nk]|rw[nn]|rw[nh]));exact Rx
   .have hhb:=ND hh;have hhl:=B8 hh;cases nh:BB ho with
    |false=>exact dL
    |true=>exact dL
  case rest=>obtain⟨rfl,rfl⟩:=hcut;cases hcm:KG ⟨2,ki,na,se,te,ho⟩with
   |false=>have HE:=Aj (show LF ⟨2,ki,na,se,te,ho⟩=false by unfold LF;rw[hcm];rfl);go_wp2;go_ret;exact⟨Az HE.symm,An _ _⟩
   |true=>
    have CT:=Aj hcm;clear hcm;by_cases hho:ho=⟨#[]⟩;.subst hho;have HE:=Aj (show LF ⟨2,ki,na,se,te,⟨#[]⟩⟩=LR ⟨2,ki,na,se,te,⟨#[]⟩⟩by unfold LF;rw[CT.out];rfl);exact Q4
    .have hhob:=ND hho;have hhoe:ho.toList.isEmpty=false:=by simp[B8 hho]
     have hhol:=B8 hho;have HE:=Aj (show LF ⟨2,ki,na,se,te,ho⟩=LR ⟨2,ki,na,se,te,ho⟩by unfold LF;rw[CT.out];rfl);exact QV
 .go_enter func90,ntmps90;go_upto_region 1 with fail;go_cut[42]from 5 to 94 (λs42 wx=>s42=.bool (!KG ⟨3,ki,na,se,te,ho⟩)/\W.alloc (.cells #[.i 3,.s ki,.s na,.i se,.s te,.s ho] 118)=wx);case first=>cases nk:BB ki with
   |false=>go_wp2_with (first|(go_at_call 21;refine(BV _ _ _ _).mono ?_;rintro e w1 ⟨rfl,rfl⟩;rw[show EX 3 1 5=true from rfl])|(go_at_call 55;refine(A7 _ _ Zh).mono ?_;rintro e w1 ⟨rfl,rfl⟩;first|rw[nk]|rw[nn]|rw[nh]));exact RH
   |true=>cases nn:BB na with
   |false=>go_wp2_with (first|(go_at_call 21;refine(BV _ _ _ _).mono ?_;rintro e w1 ⟨rfl,rfl⟩;rw[show EX 3 1 5=true from rfl])|(go_at_call 55;refine(A7 _ _ Zh).mono ?_;rintro e w1 ⟨rfl,rfl⟩;first|rw[nk]|rw[nn]|rw[nh]));exact Rv
   |true=>
   by_cases hs:0<=se;case neg=>have hs2:se<0:=Za;go_wp2_with (first|(go_at_call 21;refine(BV _ _ _ _).mono ?_;rintro e w1 ⟨rfl,rfl⟩;rw[show EX 3 1 5=true from rfl])|(go_at_call 55;refine(A7 _ _ Zh).mono ?_;rintro e w1 ⟨rfl,rfl⟩;first|rw[nk]|rw[nn]|rw[nh]));exact Rt
   have hs2:¬se<0:=Za;by_cases ht:te.size<=300;case neg=>have ht2:(300:Int)<te.size:=Za;go_wp2_with (first|(go_at_call 21;refine(BV _ _ _ _).mono ?_;rintro e w1 ⟨rfl,rfl⟩;rw[show EX 3 1 5=true from rfl])|(go_at_call 55;refine(A7 _ _ Zh).mono ?_;rintro e w1 ⟨rfl,rfl⟩;first|rw[nk]|rw[nn]|rw[nh]));exact Sn
   have ht2:¬(300:Int)<te.size:=Za;by_cases hh:ho=⟨#[]⟩;.subst hh;go_wp2_with (first|(go_at_call 21;refine(BV _ _ _ _).mono ?_;rintro e w1 ⟨rfl,rfl⟩;rw[show EX 3 1 5=true from rfl])|(go_at_call 55;refine(A7 _ _ Zh).mono ?_;rintro e w1 ⟨rfl,rfl⟩;first|rw[nk]|rw[nn]|rw[nh]));exact Rx
   .have hhb:=ND hh;have hhl:=B8 hh;cases nh:BB ho with
    |false=>exact gZ
    |true=>exact gZ
  case rest=>obtain⟨rfl,rfl⟩:=hcut;cases hcm:KG ⟨3,ki,na,se,te,ho⟩with
   |false=>have HE:=Aj (show LF ⟨3,ki,na,se,te,ho⟩=false by unfold LF;rw[hcm];rfl);go_wp2;go_ret;exact⟨Az HE.symm,An _ _⟩
   |true=>
    have CT:=Aj hcm;clear hcm;by_cases hte:te=⟨#[]⟩
    .subst hte;by_cases hho:ho=⟨#[]⟩
     .subst hho;have HE:=Aj (show LF ⟨3,ki,na,se,⟨#[]⟩,⟨#[]⟩⟩=LR ⟨3,ki,na,se,⟨#[]⟩,⟨#[]⟩⟩by unfold LF;rw[CT.out];rfl);exact Q4
     .have hhob:=ND hho;have hhoe:ho.toList.isEmpty=false:=by simp[B8 hho]
      have hhol:=B8 hho;have HE:=Aj (show LF ⟨3,ki,na,se,⟨#[]⟩,ho⟩=LR ⟨3,ki,na,se,⟨#[]⟩,ho⟩by unfold LF;rw[CT.out];rfl);exact QV
    .have hteb:=ND hte;have htee:te.toList.isEmpty=false:=by simp[B8 hte]
     have htel:=B8 hte;have HE:=Aj (show LF ⟨3,ki,na,se,te,ho⟩=LR ⟨3,ki,na,se,te,ho⟩by unfold LF;rw[CT.out];rfl);exact TW
 .go_enter func90,ntmps90;go_upto_region 1 with fail;go_cut[42]from 5 to 94 (λs42 wx=>s42=.bool (!KG ⟨4,ki,na,se,te,ho⟩)/\W.alloc (.cells #[.i 4,.s ki,.s na,.i se,.s te,.s ho] 118)=wx);case first=>cases nk:BB ki with
   |false=>go_wp2_with (first|(go_at_call 21;refine(BV _ _ _ _).mono ?_;rintro e w1 ⟨rfl,rfl⟩;rw[show EX 4 1 5=true from rfl])|(go_at_call 55;refine(A7 _ _ Zh).mono ?_;rintro e w1 ⟨rfl,rfl⟩;first|rw[nk]|rw[nn]|rw[nh]));exact RH
   |true=>cases nn:BB na with
   |false=>go_wp2_with (first|(go_at_call 21;refine(BV _ _ _ _).mono ?_;rintro e w1 ⟨rfl,rfl⟩;rw[show EX 4 1 5=true from rfl])|(go_at_call 55;refine(A7 _ _ Zh).mono ?_;rintro e w1 ⟨rfl,rfl⟩;first|rw[nk]|rw[nn]|rw[nh]));exact Rv
   |true=>
   by_cases hs:0<=se;case neg=>have hs2:se<0:=Za;go_wp2_with (first|(go_at_call 21;refine(BV _ _ _ _).mono ?_;rintro e w1 ⟨rfl,rfl⟩;rw[show EX 4 1 5=true from rfl])|(go_at_call 55;refine(A7 _ _ Zh).mono ?_;rintro e w1 ⟨rfl,rfl⟩;first|rw[nk]|rw[nn]|rw[nh]));exact Rt
   have hs2:¬se<0:=Za;by_cases ht:te.size<=300;case neg=>have ht2:(300:Int)<te.size:=Za;go_wp2_with (first|(go_at_call 21;refine(BV _ _ _ _).mono ?_;rintro e w1 ⟨rfl,rfl⟩;rw[show EX 4 1 5=true from rfl])|(go_at_call 55;refine(A7 _ _ Zh).mono ?_;rintro e w1 ⟨rfl,rfl⟩;first|rw[nk]|rw[nn]|rw[nh]));exact Sn
   have ht2:¬(300:Int)<te.size:=Za;by_cases hh:ho=⟨#[]⟩
   .subst hh;go_wp2_with (first|(go_at_call 21;refine(BV _ _ _ _).mono ?_;rintro e w1 ⟨rfl,rfl⟩;rw[show EX 4 1 5=true from rfl])|(go_at_call 55;refine(A7 _ _ Zh).mono ?_;rintro e w1 ⟨rfl,rfl⟩;first|rw[nk]|rw[nn]|rw[nh]));exact Rx
   .have hhb:=ND hh;have hhl:=B8 hh;cases nh:BB ho with
    |false=>exact gE
    |true=>exact gE
  case rest=>obtain⟨rfl,rfl⟩:=hcut;cases hcm:KG ⟨4,ki,na,se,te,ho⟩with
   |false=>have HE:=Aj (show LF ⟨4,ki,na,se,te,ho⟩=false by unfold LF;rw[hcm];rfl);go_wp2;go_ret;exact⟨Az HE.symm,An _ _⟩
   |true=>
    have CT:=Aj hcm;clear hcm;by_cases hte:te=⟨#[]⟩
    .subst hte;by_cases hho:ho=⟨#[]⟩;.subst hho;have HE:=Aj (show LF ⟨4,ki,na,se,⟨#[]⟩,⟨#[]⟩⟩=LR ⟨4,ki,na,se,⟨#[]⟩,⟨#[]⟩⟩by unfold LF;rw[CT.out];rfl);exact Q4
     .have hhob:=ND hho;have hhoe:ho.toList.isEmpty=false:=by simp[B8 hho]
      have hhol:=B8 hho;have HE:=Aj (show LF ⟨4,ki,na,se,⟨#[]⟩,ho⟩=LR ⟨4,ki,na,se,⟨#[]⟩,ho⟩by unfold LF;rw[CT.out];rfl);exact QV
    .have hteb:=ND hte;have htee:te.toList.isEmpty=false:=by simp[B8 hte]
     have htel:=B8 hte;have HE:=Aj (show LF ⟨4,ki,na,se,te,ho⟩=LR ⟨4,ki,na,se,te,ho⟩by unfold LF;rw[CT.out];rfl);exact TW
 .go_enter func90,ntmps90;go_upto_region 1 with fail;go_cut[42]from 5 to 94 (λs42 wx=>s42=.bool (!KG ⟨5,ki,na,se,te,ho⟩)/\W.alloc (.cells #[.i 5,.s ki,.s na,.i se,.s te,.s ho] 118)=wx);case first=>cases nk:BB ki with
   |false=>go_wp2_with (first|(go_at_call 21;refine(BV _ _ _ _).mono ?_;rintro e w1 ⟨rfl,rfl⟩;rw[show EX 5 1 5=true from rfl])|(go_at_call 55;refine(A7 _ _ Zh).mono ?_;rintro e w1 ⟨rfl,rfl⟩;first|rw[nk]|rw[nn]|rw[nh]));exact RH
   |true=>cases nn:BB na with
   |false=>go_wp2_with (first|(go_at_call 21;refine(BV _ _ _ _).mono ?_;rintro e w1 ⟨rfl,rfl⟩;rw[show EX 5 1 5=true from rfl])|(go_at_call 55;refine(A7 _ _ Zh).mono ?_;rintro e w1 ⟨rfl,rfl⟩;first|rw[nk]|rw[nn]|rw[nh]));exact Rv
   |true=>
   by_cases hs:0<=se;case neg=>have hs2:se<0:=Za;go_wp2_with (first|(go_at_call 21;refine(BV _ _ _ _).mono ?_;rintro e w1 ⟨rfl,rfl⟩;rw[show EX 5 1 5=true from rfl])|(go_at_call 55;refine(A7 _ _ Zh).mono ?_;rintro e w1 ⟨rfl,rfl⟩;first|rw[nk]|rw[nn]|rw[nh]));exact Rt
   have hs2:¬se<0:=Za;by_cases ht:te.size<=300;case neg=>have ht2:(300:Int)<te.size:=Za;go_wp2_with (first|(go_at_call 21;refine(BV _ _ _ _).mono ?_;rintro e w1 ⟨rfl,rfl⟩;rw[show EX 5 1 5=true from rfl])|(go_at_call 55;refine(A7 _ _ Zh).mono ?_;rintro e w1 ⟨rfl,rfl⟩;first|rw[nk]|rw[nn]|rw[nh]));exact Sn
   have ht2:¬(300:Int)<te.size:=Za;by_cases hh:ho=⟨#[]⟩
   .subst hh;go_wp2_with (first|(go_at_call 21;refine(BV _ _ _ _).mono ?_;rintro e w1 ⟨rfl,rfl⟩;rw[show EX 5 1 5=true from rfl])|(go_at_call 55;refine(A7 _ _ Zh).mono ?_;rintro e w1 ⟨rfl,rfl⟩;first|rw[nk]|rw[nn]|rw[nh]));exact Rx
   .have hhb:=ND hh;have hhl:=B8 hh;cases nh:BB ho with
    |false=>exact XM
    |true=>exact XM
  case rest=>obtain⟨rfl,rfl⟩:=hcut;cases hcm:KG ⟨5,ki,na,se,te,ho⟩with
   |false=>have HE:=Aj (show LF ⟨5,ki,na,se,te,ho⟩=false by unfold LF;rw[hcm];rfl);go_wp2;go_ret;exact⟨Az HE.symm,An _ _⟩
   |true=>
    have CT:=Aj hcm;clear hcm;by_cases hte:te=⟨#[]⟩
    .subst hte;by_cases hho:ho=⟨#[]⟩;.subst hho;have HE:=Aj (show LF ⟨5,ki,na,se,⟨#[]⟩,⟨#[]⟩⟩=LR ⟨5,ki,na,se,⟨#[]⟩,⟨#[]⟩⟩by unfold LF;rw[CT.out];rfl);exact Q4
     .have hhob:=ND hho;have hhoe:ho.toList.isEmpty=false:=by simp[B8 hho]
      have hhol:=B8 hho;have HE:=Aj (show LF ⟨5,ki,na,se,⟨#[]⟩,ho⟩=LR ⟨5,ki,na,se,⟨#[]⟩,ho⟩by unfold LF;rw[CT.out];rfl);exact QV
    .have hteb:=ND hte;have htee:te.toList.isEmpty=false:=by simp[B8 hte]
     have htel:=B8 hte;have HE:=Aj (show LF ⟨5,ki,na,se,te,ho⟩=LR ⟨5,ki,na,se,te,ho⟩by unfold LF;rw[CT.out];rfl);exact TW
end Go.Proofs.YtnnjcenacidceaaGreat
namespace Go.Proofs.YtnnjcenacidceaaGreat
open Go.RowKit Go.Maps Go.Proofs.Tryz
def l9:Bk:=⟨0,0,0,λ_=>kW,0,λ_=>⟨0,false,kW⟩,0,λ_=>⟨⟨#[]⟩,0,⟨#[]⟩,0,0⟩⟩
theorem eP{v:Wr}(h:LF v=true):v.op=1\/v.op=2\/v.op=3\/v.op=4\/v.op=5:=by
 unfold LF at h;rw[Am]at h;have h2:=h.2;unfold LR at h2;split at h2;.exact AB ‹_›
 .split at h2;.exact AE (AB ‹_›)
  .split at h2;.exact AE (AE (AB ‹_›))
   .split at h2;.exact AE (AE (AE (AB ‹_›)))
    .split at h2;.exact AE (AE (AE (AE ‹_›)))
     .cases h2
end Go.Proofs.YtnnjcenacidceaaGreat
