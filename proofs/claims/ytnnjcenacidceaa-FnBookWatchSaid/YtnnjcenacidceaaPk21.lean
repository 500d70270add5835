import Derived.Test.YtnnjcenacidceaaPk18
import Derived.Laws.EntriesVeiled
import Derived.Test.YtnnjcenacidceaaPk12
import Derived.Deep.Cut
import Derived.Deep.CutRange
import Derived.Deep.MidRow
import Derived.WalkKit
import Derived.LaidEql
import Derived.Stop.Asserts
import Derived.RowKitTokens
set_option maxRecDepth 100000
set_option maxHeartbeats 4000000
namespace Go.Proofs.Ytnnjcenacidceaa
open Go.RowKit Go.Maps Go.Proofs.Try
end Go.Proofs.Ytnnjcenacidceaa
namespace Go.Proofs.Ytnnjcenacidceaa
open Go.RowKit Go.Maps Go.Proofs.Try
/-! the objects behind a write,as a list -/
theorem fE{x z:Ob}(h1:x.kind.toList=z.kind.toList)(h2:x.name.toList=z.name.toList):Fd x z=false:=by unfold Fd;rw[if_pos h1];exact LL h2
theorem kO{B:Bk}{v:Wr}(hf:Ce B.os v.kind v.name B.on=true\/v.op=1):(Cr B v).kind=v.kind/\(Cr B v).name=v.name:=by
 by_cases h1:v.op=1;.unfold Cr MY;rw[if_pos h1];exact⟨rfl,rfl⟩
 .have hf:Ce B.os v.kind v.name B.on=true:=hf.resolve_right h1;have hk:(BV B v).kind=v.kind/\(BV B v).name=v.name:=by unfold BV BN;unfold Ce at hf;cases hx:Nq B.os v.kind v.name B.on with
   |none=>rw[hx]at hf;cases hf
   |some i=>exact(Oh hx).2
  unfold Cr MY;rw[if_neg h1];split;.exact hk
  .split;.exact hk
   .split<;>exact hk
theorem Vo{B:Bk}{v:Wr}(hc:BJ B v=0):Ce B.os v.kind v.name B.on=true\/v.op=1:=by cases hf:Ce B.os v.kind v.name B.on with
 |true=>exact AA rfl
 |false=>
  refine AC ?_;by_cases h:v.op=1;.exact h
  .have:=(Xs hf h).1;unfold BJ at hc;rw[this,if_neg Zb]at hc;exact absurd hc Zb
end Go.Proofs.Ytnnjcenacidceaa
namespace Go.Proofs.Ytnnjcenacidceaa
open Go.RowKit Go.Maps Go.Proofs.Try
end Go.Proofs.Ytnnjcenacidceaa
namespace Go.Proofs.Ytnnjcenacidceaa
open Go.RowKit Go.Proofs.Try
theorem jZ{w:Wr}(h:EG w.op 1 5=false):Lz w=false:=by unfold EG at h;simp at h;unfold Lz;rw[if_neg Za,if_neg Za,if_neg Za,if_neg Za,if_neg Za]
theorem Ri{P:Prop}(h:P:=by go_meet;exact⟨congrArg Value.bool (by first|(simp[Ky,nk,nn,hs,ht,PE,hh,nh];done)|(simp[Ky,nk,nn,hs,ht,PE,hh,nh];omega)|(simp[Ky,nk,nn,hs,ht,PE,hh,nh,BY hh];done)|(simp[Ky,nk,nn,hs,ht,PE,hh,nh,BY hh];omega)),rfl⟩):P:=h
theorem Rs{P:Prop}(h:P:=by go_meet;exact⟨congrArg Value.bool (by first|(simp[Ky,nk,nn,hs,ht,PE];done)|(simp[Ky,nk,nn,hs,ht,PE];omega)|(simp[Ky,nk,nn,hs,ht,PE,BY hh];done)|(simp[Ky,nk,nn,hs,ht,PE,BY hh];omega)),rfl⟩):P:=h
theorem Q6{P:Prop}(h:P:=by go_meet;exact⟨congrArg Value.bool (by first|(simp[Ky,nk];done)|(simp[Ky,nk];omega)|(simp[Ky,nk,BY hh];done)|(simp[Ky,nk,BY hh];omega)),rfl⟩):P:=h
theorem RX{P:Prop}(h:P:=by go_meet;exact⟨congrArg Value.bool (by first|(simp[Ky,nn];done)|(simp[Ky,nn];omega)|(simp[Ky,nn,BY hh];done)|(simp[Ky,nn,BY hh];omega)),rfl⟩):P:=h
theorem QP{P:Prop}(h:P:=by go_meet;exact⟨congrArg Value.bool (by first|(simp[Ky,hs];done)|(simp[Ky,hs];omega)|(simp[Ky,hs,BY hh];done)|(simp[Ky,hs,BY hh];omega)),rfl⟩):P:=h
theorem Rj{P:Prop}(h:P:=by go_meet;exact⟨congrArg Value.bool (by first|(simp[Ky,ht];done)|(simp[Ky,ht];omega)|(simp[Ky,ht,BY hh];done)|(simp[Ky,ht,BY hh];omega)),rfl⟩):P:=h
theorem iE{P:Prop}(h:P:=by go_wp2_with (first|(go_at_call 37;refine(BM _ _ _ _).mono ?_;rintro e w1 ⟨rfl,rfl⟩;rw[show EG 1 1 5=true from rfl])|(go_at_call 67;refine(AV _ _ Zh).mono ?_;rintro e w1 ⟨rfl,rfl⟩;first|rw[nk]|rw[nn]|rw[nh]));exact Ri):P:=h
theorem Z6{P:Prop}(h:P:=by go_wp2_with (first|(go_at_call 37;refine(BM _ _ _ _).mono ?_;rintro e w1 ⟨rfl,rfl⟩;rw[show EG 2 1 5=true from rfl])|(go_at_call 67;refine(AV _ _ Zh).mono ?_;rintro e w1 ⟨rfl,rfl⟩;first|rw[nk]|rw[nn]|rw[nh]));exact Ri):P:=h
theorem cC{P:Prop}(h:P:=by go_wp2_with (first|(go_at_call 37;refine(BM _ _ _ _).mono ?_;rintro e w1 ⟨rfl,rfl⟩;rw[show EG 3 1 5=true from rfl])|(go_at_call 67;refine(AV _ _ Zh).mono ?_;rintro e w1 ⟨rfl,rfl⟩;first|rw[nk]|rw[nn]|rw[nh]));exact Ri):P:=h
theorem iJ{P:Prop}(h:P:=by go_wp2_with (first|(go_at_call 37;refine(BM _ _ _ _).mono ?_;rintro e w1 ⟨rfl,rfl⟩;rw[show EG 4 1 5=true from rfl])|(go_at_call 67;refine(AV _ _ Zh).mono ?_;rintro e w1 ⟨rfl,rfl⟩;first|rw[nk]|rw[nn]|rw[nh]));exact Ri):P:=h
theorem Xp{P:Prop}(h:P:=by go_wp2_with (first|(go_at_call 37;refine(BM _ _ _ _).mono ?_;rintro e w1 ⟨rfl,rfl⟩;rw[show EG 5 1 5=true from rfl])|(go_at_call 67;refine(AV _ _ Zh).mono ?_;rintro e w1 ⟨rfl,rfl⟩;first|rw[nk]|rw[nn]|rw[nh]));exact Ri):P:=h
theorem QC{P:Prop}(h:P:=by go_wp2;go_ret;exact⟨Ay (HE.trans (by simp[Lz,PE,hho])).symm,Am _ _⟩):P:=h
theorem Qz{P:Prop}(h:P:=by go_wp2;go_ret;exact⟨Ay (HE.trans (by simp[Lz,PE])).symm,Am _ _⟩):P:=h
theorem T9{P:Prop}(h:P:=by go_wp2;go_ret;exact⟨Ay (HE.trans (by simp[Lz,PE,hte])).symm,Am _ _⟩):P:=h
theorem Le (w:Wr)(hf:RU w)(W:World):Calls prog 83 #[.agg (vW w)] W λe w'=>e=.returned (.bool (Li w))/\Below W.1.size W w':=by obtain⟨op,ki,na,se,te,ho⟩:=w;have htx:=hf.t;dsimp only at htx⊢;cases hin:EG op 1 5 with
 |false=>have HE:=Ah (show Li ⟨op,ki,na,se,te,ho⟩=false by unfold Li;rw[jZ (w:=⟨op,ki,na,se,te,ho⟩) hin];simp);go_enter func83,ntmps83;go_wp2_with (go_at_call 37;refine(BM _ _ _ _).mono ?_;rintro e w1 ⟨rfl,rfl⟩;rw[hin]);go_ret;exact⟨Ay HE.symm,Am _ _⟩
 |true=>
 have hop:op=1\/op=2\/op=3\/op=4\/op=5:=by unfold EG at hin;simp at hin;omega
 clear hin;rcases hop with rfl|rfl|rfl|rfl|rfl
 .go_enter func83,ntmps83;go_upto_region 1 with fail;go_cut[42]from 5 to 94 (λs42 wx=>s42=.bool (!Ky ⟨1,ki,na,se,te,ho⟩)/\W.alloc (.cells #[.i 1,.s ki,.s na,.i se,.s te,.s ho] 114)=wx);case first=>cases nk:Bv ki with
   |false=>go_wp2_with (first|(go_at_call 37;refine(BM _ _ _ _).mono ?_;rintro e w1 ⟨rfl,rfl⟩;rw[show EG 1 1 5=true from rfl])|(go_at_call 67;refine(AV _ _ Zh).mono ?_;rintro e w1 ⟨rfl,rfl⟩;first|rw[nk]|rw[nn]|rw[nh]));exact Q6
   |true=>cases nn:Bv na with
   |false=>go_wp2_with (first|(go_at_call 37;refine(BM _ _ _ _).mono ?_;rintro e w1 ⟨rfl,rfl⟩;rw[show EG 1 1 5=true from rfl])|(go_at_call 67;refine(AV _ _ Zh).mono ?_;rintro e w1 ⟨rfl,rfl⟩;first|rw[nk]|rw[nn]|rw[nh]));exact RX
   |true=>
   by_cases hs:0<=se;case neg=>have hs2:se<0:=Za;go_wp2_with (first|(go_at_call 37;refine(BM _ _ _ _).mono ?_;rintro e w1 ⟨rfl,rfl⟩;rw[show EG 1 1 5=true from rfl])|(go_at_call 67;refine(AV _ _ Zh).mono ?_;rintro e w1 ⟨rfl,rfl⟩;first|rw[nk]|rw[nn]|rw[nh]));exact QP
   have hs2:¬se<0:=Za;by_cases ht:te.size<=300;case neg=>have ht2:(300:Int)<te.size:=Za;go_wp2_with (first|(go_at_call 37;refine(BM _ _ _ _).mono ?_;rintro e w1 ⟨rfl,rfl⟩;rw[show EG 1 1 5=true from rfl])|(go_at_call 67;refine(AV _ _ Zh).mono ?_;rintro e w1 ⟨rfl,rfl⟩;first|rw[nk]|rw[nn]|rw[nh]));exact Rj
   have ht2:¬(300:Int)<te.size:=Za;by_cases hh:ho=⟨#[]⟩
   .subst hh;go_wp2_with (first|(go_at_call 37;refine(BM _ _ _ _).mono ?_;rintro e w1 ⟨rfl,rfl⟩;rw[show EG 1 1 5=true from rfl])|(go_at_call 67;refine(AV _ _ Zh).mono ?_;rintro e w1 ⟨rfl,rfl⟩;first|rw[nk]|rw[nn]|rw[nh]));exact Rs
   .have hhb:=Nk hh;have hhl:=BY hh;cases nh:Bv ho with
    |false=>exact iE
    |true=>exact iE
  case rest=>obtain⟨rfl,rfl⟩:=hcut;cases hcm:Ky ⟨1,ki,na,se,te,ho⟩with
   |false=>have HE:=Ah (show Li ⟨1,ki,na,se,te,ho⟩=false by unfold Li;rw[hcm];rfl);go_wp2;go_ret;exact⟨Ay HE.symm,Am _ _⟩
   |true=>
    have CT:=Ah hcm;clear hcm;by_cases hs:se=0;.subst hs;have HE:=Ah (show Li ⟨1,ki,na,0,te,ho⟩=Lz ⟨1,ki,na,0,te,ho⟩by unfold Li;rw[CT.out];rfl);go_wp2;go_ret;exact⟨Ay (HE.trans (by simp[Lz])).symm,Am _ _⟩
    .have hsb:(se !=0)=true:=by simp[hs]
     have HE:=Ah (show Li ⟨1,ki,na,se,te,ho⟩=Lz ⟨1,ki,na,se,te,ho⟩by unfold Li;rw[CT.out];rfl);go_wp2;go_ret;exact⟨Ay (HE.trans (by simp[Lz,hs])).symm,Am _ _⟩
 .go_enter func83,ntmps83;go_upto_region 1 with fail;go_cut[42]from 5 to 94 (λs42 wx=>s42=.bool (!Ky ⟨2,ki,na,se,te,ho⟩)/\W.alloc (.cells #[.i 2,.s ki,.s na,.i se,.s te,.s ho] 114)=wx);case first=>cases nk:Bv ki with
   |false=>go_wp2_with (first|(go_at_call 37;refine(BM _ _ _ _).mono ?_;rintro e w1 ⟨rfl,rfl⟩;rw[show EG 2 1 5=true from rfl])|(go_at_call 67;refine(AV _ _ Zh).mono ?_;rintro e w1 ⟨rfl,rfl⟩;first|rw[nk]|rw[nn]|rw[nh]));exact Q6
   |true=>cases nn:Bv na with
   |false=>go_wp2_with (first|(go_at_call 37;refine(BM _ _ _ _).mono ?_;rintro e w1 ⟨rfl,rfl⟩;rw[show EG 2 1 5=true from rfl])|(go_at_call 67;refine(AV _ _ Zh).mono ?_;rintro e w1 ⟨rfl,rfl⟩;first|rw[nk]|rw[nn]|rw[nh]));exact RX
   |true=>
   by_cases hs:0<=se;case neg=>have hs2:se<0:=Za;go_wp2_with (first|(go_at_call 37;refine(BM _ _ _ _).mono ?_;rintro e w1 ⟨rfl,rfl⟩;rw[show EG 2 1 5=true from rfl])|(go_at_call 67;refine(AV _ _ Zh).mono ?_;rintro e w1 ⟨rfl,rfl⟩;first|rw[nk]|rw[nn]|rw[nh]));exact QP
   have hs2:¬se<0:=Za;by_cases ht:te.size<=300;case neg=>have ht2:(300:Int)<te.size:=Za;go_wp2_with (first|(go_at_call 37;refine(BM _ _ _ _).mono ?_;rintro e w1 ⟨rfl,rfl⟩;rw[show EG 2 1 5=true from rfl])|(go_at_call 67;refine(AV _ _ Zh).mono ?_;rintro e w1 ⟨rfl,rfl⟩;first|rw[nk]|rw[nn]|rw[nh]));exact Rj
   have ht2:¬(300:Int)<te.size:=Za;by_cases hh:ho=⟨#[]⟩;.subst hh;go_wp2_with (first|(go_at_call 37;refine(BM _ _ _ _).mono ?_;rintro e w1 ⟨rfl,rfl⟩;rw[show EG 2 1 5=true from rfl])|(go_at_call 67;refine(AV _ _ Zh).mono ?_;rintro e w1 ⟨rfl,rfl⟩;first|rw[nk]|rw[nn]|rw[nh]));exact Rs
   .have hhb:=Nk hh;have hhl:=BY hh;cases nh:Bv ho with
    |false=>exact Z6
    |true=>exact Z6
  case rest=>obtain⟨rfl,rfl⟩:=hcut;cases hcm:Ky ⟨2,ki,na,se,te,ho⟩with
   |false=>have HE:=Ah (show Li ⟨2,ki,na,se,te,ho⟩=false by unfold Li;rw[hcm];rfl);go_wp2;go_ret;exact⟨Ay HE.symm,Am _ _⟩
   |true=>
    have CT:=Ah hcm;clear hcm;by_cases hho:ho=⟨#[]⟩;.subst hho;have HE:=Ah (show Li ⟨2,ki,na,se,te,⟨#[]⟩⟩=Lz ⟨2,ki,na,se,te,⟨#[]⟩⟩by unfold Li;rw[CT.out];rfl);exact Qz
    .have hhob:=Nk hho;have hhoe:ho.toList.isEmpty=false:=by simp[BY hho]
     have hhol:=BY hho;have HE:=Ah (show Li ⟨2,ki,na,se,te,ho⟩=Lz ⟨2,ki,na,se,te,ho⟩by unfold Li;rw[CT.out];rfl);exact QC
 .go_enter func83,ntmps83;go_upto_region 1 with fail;go_cut[42]from 5 to 94 (λs42 wx=>s42=.bool (!Ky ⟨3,ki,na,se,te,ho⟩)/\W.alloc (.cells #[.i 3,.s ki,.s na,.i se,.s te,.s ho] 114)=wx);case first=>cases nk:Bv ki with
   |false=>go_wp2_with (first|(go_at_call 37;refine(BM _ _ _ _).mono ?_;rintro e w1 ⟨rfl,rfl⟩;rw[show EG 3 1 5=true from rfl])|(go_at_call 67;refine(AV _ _ Zh).mono ?_;rintro e w1 ⟨rfl,rfl⟩;first|rw[nk]|rw[nn]|rw[nh]));exact Q6
   |true=>cases nn:Bv na with
   |false=>go_wp2_with (first|(go_at_call 37;refine(BM _ _ _ _).mono ?_;rintro e w1 ⟨rfl,rfl⟩;rw[show EG 3 1 5=true from rfl])|(go_at_call 67;refine(AV _ _ Zh).mono ?_;rintro e w1 ⟨rfl,rfl⟩;first|rw[nk]|rw[nn]|rw[nh]));exact RX
   |true=>
   by_cases hs:0<=se;case neg=>have hs2:se<0:=Za;go_wp2_with (first|(go_at_call 37;refine(BM _ _ _ _).mono ?_;rintro e w1 ⟨rfl,rfl⟩;rw[show EG 3 1 5=true from rfl])|(go_at_call 67;refine(AV _ _ Zh).mono ?_;rintro e w1 ⟨rfl,rfl⟩;first|rw[nk]|rw[nn]|rw[nh]));exact QP
   have hs2:¬se<0:=Za;by_cases ht:te.size<=300;case neg=>have ht2:(300:Int)<te.size:=Za;go_wp2_with (first|(go_at_call 37;refine(BM _ _ _ _).mono ?_;rintro e w1 ⟨rfl,rfl⟩;rw[show EG 3 1 5=true from rfl])|(go_at_call 67;refine(AV _ _ Zh).mono ?_;rintro e w1 ⟨rfl,rfl⟩;first|rw[nk]|rw[nn]|rw[nh]));exact Rj
   have ht2:¬(300:Int)<te.size:=Za;by_cases hh:ho=⟨#[]⟩;.subst hh;go_wp2_with (first|(go_at_call 37;refine(BM _ _ _ _).mono ?_;rintro e w1 ⟨rfl,rfl⟩;rw[show EG 3 1 5=true from rfl])|(go_at_call 67;refine(AV _ _ Zh).mono ?_;rintro e w1 ⟨rfl,rfl⟩;first|rw[nk]|rw[nn]|rw[nh]));exact Rs
   .have hhb:=Nk hh;have hhl:=BY hh;cases nh:Bv ho with
    |false=>exact cC
    |true=>exact cC
  case rest=>obtain⟨rfl,rfl⟩:=hcut;cases hcm:Ky ⟨3,ki,na,se,te,ho⟩with
   |false=>have HE:=Ah (show Li ⟨3,ki,na,se,te,ho⟩=false by unfold Li;rw[hcm];rfl);go_wp2;go_ret;exact⟨Ay HE.symm,Am _ _⟩
   |true=>
    have CT:=Ah hcm;clear hcm;by_cases hte:te=⟨#[]⟩
    .subst hte;by_cases hho:ho=⟨#[]⟩
     .subst hho;have HE:=Ah (show Li ⟨3,ki,na,se,⟨#[]⟩,⟨#[]⟩⟩=Lz ⟨3,ki,na,se,⟨#[]⟩,⟨#[]⟩⟩by unfold Li;rw[CT.out];rfl);exact Qz
     .have hhob:=Nk hho;have hhoe:ho.toList.isEmpty=false:=by simp[BY hho]
      have hhol:=BY hho;have HE:=Ah (show Li ⟨3,ki,na,se,⟨#[]⟩,ho⟩=Lz ⟨3,ki,na,se,⟨#[]⟩,ho⟩by unfold Li;rw[CT.out];rfl);exact QC
    .have hteb:=Nk hte;have htee:te.toList.isEmpty=false:=by simp[BY hte]
     have htel:=BY hte;have HE:=Ah (show Li ⟨3,ki,na,se,te,ho⟩=Lz ⟨3,ki,na,se,te,ho⟩by unfold Li;rw[CT.out];rfl);exact T9
 .go_enter func83,ntmps83;go_upto_region 1 with fail;go_cut[42]from 5 to 94 (λs42 wx=>s42=.bool (!Ky ⟨4,ki,na,se,te,ho⟩)/\W.alloc (.cells #[.i 4,.s ki,.s na,.i se,.s te,.s ho] 114)=wx);case first=>cases nk:Bv ki with
   |false=>go_wp2_with (first|(go_at_call 37;refine(BM _ _ _ _).mono ?_;rintro e w1 ⟨rfl,rfl⟩;rw[show EG 4 1 5=true from rfl])|(go_at_call 67;refine(AV _ _ Zh).mono ?_;rintro e w1 ⟨rfl,rfl⟩;first|rw[nk]|rw[nn]|rw[nh]));exact Q6
   |true=>cases nn:Bv na with
   |false=>go_wp2_with (first|(go_at_call 37;refine(BM _ _ _ _).mono ?_;rintro e w1 ⟨rfl,rfl⟩;rw[show EG 4 1 5=true from rfl])|(go_at_call 67;refine(AV _ _ Zh).mono ?_;rintro e w1 ⟨rfl,rfl⟩;first|rw[nk]|rw[nn]|rw[nh]));exact RX
   |true=>
   by_cases hs:0<=se;case neg=>have hs2:se<0:=Za;go_wp2_with (first|(go_at_call 37;refine(BM _ _ _ _).mono ?_;rintro e w1 ⟨rfl,rfl⟩;rw[show EG 4 1 5=true from rfl])|(go_at_call 67;refine(AV _ _ Zh).mono ?_;rintro e w1 ⟨rfl,rfl⟩;first|rw[nk]|rw[nn]|rw[nh]));exact QP
   have hs2:¬se<0:=Za;by_cases ht:te.size<=300;case neg=>have ht2:(300:Int)<te.size:=Za;go_wp2_with (first|(go_at_call 37;refine(BM _ _ _ _).mono ?_;rintro e w1 ⟨rfl,rfl⟩;rw[show EG 4 1 5=true from rfl])|(go_at_call 67;refine(AV _ _ Zh).mono ?_;rintro e w1 ⟨rfl,rfl⟩;first|rw[nk]|rw[nn]|rw[nh]));exact Rj
   have ht2:¬(300:Int)<te.size:=Za;by_cases hh:ho=⟨#[]⟩
   .subst hh;go_wp2_with (first|(go_at_call 37;refine(BM _ _ _ _).mono ?_;rintro e w1 ⟨rfl,rfl⟩;rw[show EG 4 1 5=true from rfl])|(go_at_call 67;refine(AV _ _ Zh).mono ?_;rintro e w1 ⟨rfl,rfl⟩;first|rw[nk]|rw[nn]|rw[nh]));exact Rs
   .have hhb:=Nk hh;have hhl:=BY hh;cases nh:Bv ho with
    |false=>exact iJ
    |true=>exact iJ
  case rest=>obtain⟨rfl,rfl⟩:=hcut;cases hcm:Ky ⟨4,ki,na,se,te,ho⟩with
   |false=>have HE:=Ah (show Li ⟨4,ki,na,se,te,ho⟩=false by unfold Li;rw[hcm];rfl);go_wp2;go_ret;exact⟨Ay HE.symm,Am _ _⟩
   |true=>
    have CT:=Ah hcm;clear hcm;by_cases hte:te=⟨#[]⟩
    .subst hte;by_cases hho:ho=⟨#[]⟩;.subst hho;have HE:=Ah (show Li ⟨4,ki,na,se,⟨#[]⟩,⟨#[]⟩⟩=Lz ⟨4,ki,na,se,⟨#[]⟩,⟨#[]⟩⟩by unfold Li;rw[CT.out];rfl);exact Qz
     .have hhob:=Nk hho;have hhoe:ho.toList.isEmpty=false:=by simp[BY hho]
      have hhol:=BY hho;have HE:=Ah (show Li ⟨4,ki,na,se,⟨#[]⟩,ho⟩=Lz ⟨4,ki,na,se,⟨#[]⟩,ho⟩by unfold Li;rw[CT.out];rfl);exact QC
    .have hteb:=Nk hte;have htee:te.toList.isEmpty=false:=by simp[BY hte]
     have htel:=BY hte;have HE:=Ah (show Li ⟨4,ki,na,se,te,ho⟩=Lz ⟨4,ki,na,se,te,ho⟩by unfold Li;rw[CT.out];rfl);exact T9
 .go_enter func83,ntmps83;go_upto_region 1 with fail;go_cut[42]from 5 to 94 (λs42 wx=>s42=.bool (!Ky ⟨5,ki,na,se,te,ho⟩)/\W.alloc (.cells #[.i 5,.s ki,.s na,.i se,.s te,.s ho] 114)=wx);case first=>cases nk:Bv ki with
   |false=>go_wp2_with (first|(go_at_call 37;refine(BM _ _ _ _).mono ?_;rintro e w1 ⟨rfl,rfl⟩;rw[show EG 5 1 5=true from rfl])|(go_at_call 67;refine(AV _ _ Zh).mono ?_;rintro e w1 ⟨rfl,rfl⟩;first|rw[nk]|rw[nn]|rw[nh]));exact Q6
   |true=>cases nn:Bv na with
   |false=>go_wp2_with (first|(go_at_call 37;refine(BM _ _ _ _).mono ?_;rintro e w1 ⟨rfl,rfl⟩;rw[show EG 5 1 5=true from rfl])|(go_at_call 67;refine(AV _ _ Zh).mono ?_;rintro e w1 ⟨rfl,rfl⟩;first|rw[nk]|rw[nn]|rw[nh]));exact RX
   |true=>
   by_cases hs:0<=se;case neg=>have hs2:se<0:=Za;go_wp2_with (first|(go_at_call 37;refine(BM _ _ _ _).mono ?_;rintro e w1 ⟨rfl,rfl⟩;rw[show EG 5 1 5=true from rfl])|(go_at_call 67;refine(AV _ _ Zh).mono ?_;rintro e w1 ⟨rfl,rfl⟩;first|rw[nk]|rw[nn]|rw[nh]));exact QP
   have hs2:¬se<0:=Za;by_cases ht:te.size<=300;case neg=>have ht2:(300:Int)<te.size:=Za;go_wp2_with (first|(go_at_call 37;refine(BM _ _ _ _).mono ?_;rintro e w1 ⟨rfl,rfl⟩;rw[show EG 5 1 5=true from rfl])|(go_at_call 67;refine(AV _ _ Zh).mono ?_;rintro e w1 ⟨rfl,rfl⟩;first|rw[nk]|rw[nn]|rw[nh]));exact Rj
   have ht2:¬(300:Int)<te.size:=Za;by_cases hh:ho=⟨#[]⟩
   .subst hh;go_wp2_with (first|(go_at_call 37;refine(BM _ _ _ _).mono ?_;rintro e w1 ⟨rfl,rfl⟩;rw[show EG 5 1 5=true from rfl])|(go_at_call 67;refine(AV _ _ Zh).mono ?_;rintro e w1 ⟨rfl,rfl⟩;first|rw[nk]|rw[nn]|rw[nh]));exact Rs
   .have hhb:=Nk hh;have hhl:=BY hh;cases nh:Bv ho with
    |false=>exact Xp
    |true=>exact Xp
  case rest=>obtain⟨rfl,rfl⟩:=hcut;cases hcm:Ky ⟨5,ki,na,se,te,ho⟩with
   |false=>have HE:=Ah (show Li ⟨5,ki,na,se,te,ho⟩=false by unfold Li;rw[hcm];rfl);go_wp2;go_ret;exact⟨Ay HE.symm,Am _ _⟩
   |true=>
    have CT:=Ah hcm;clear hcm;by_cases hte:te=⟨#[]⟩
    .subst hte;by_cases hho:ho=⟨#[]⟩;.subst hho;have HE:=Ah (show Li ⟨5,ki,na,se,⟨#[]⟩,⟨#[]⟩⟩=Lz ⟨5,ki,na,se,⟨#[]⟩,⟨#[]⟩⟩by unfold Li;rw[CT.out];rfl);exact Qz
     .have hhob:=Nk hho;have hhoe:ho.toList.isEmpty=false:=by simp[BY hho]
      have hhol:=BY hho;have HE:=Ah (show Li ⟨5,ki,na,se,⟨#[]⟩,ho⟩=Lz ⟨5,ki,na,se,⟨#[]⟩,ho⟩by unfold Li;rw[CT.out];rfl);exact QC
    .have hteb:=Nk hte;have htee:te.toList.isEmpty=false:=by simp[BY hte]
     have htel:=BY hte;have HE:=Ah (show Li ⟨5,ki,na,se,te,ho⟩=Lz ⟨5,ki,na,se,te,ho⟩by unfold Li;rw[CT.out];rfl);exact T9
end Go.Proofs.Ytnnjcenacidceaa
namespace Go.Proofs.Ytnnjcenacidceaa
open Go.RowKit Go.Maps Go.Proofs.Try
def wS:Bk:=⟨0,0,0,λ_=>nB,0,λ_=>⟨0,false,nB⟩,0,λ_=>⟨⟨#[]⟩,0,⟨#[]⟩,0,0⟩⟩
theorem cV{v:Wr}(h:Li v=true):v.op=1\/v.op=2\/v.op=3\/v.op=4\/v.op=5:=by
 unfold Li at h;rw[Al]at h;have h2:=h.2;unfold Lz at h2;split at h2;.exact AA ‹_›
 .split at h2;.exact AC (AA ‹_›)
  .split at h2;.exact AC (AC (AA ‹_›))
   .split at h2;.exact AC (AC (AC (AA ‹_›)))
    .split at h2;.exact AC (AC (AC (AC ‹_›)))
     .cases h2
end Go.Proofs.Ytnnjcenacidceaa
