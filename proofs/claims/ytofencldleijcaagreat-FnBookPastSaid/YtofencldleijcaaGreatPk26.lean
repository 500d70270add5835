import Derived.Test.YtofencldleijcaaGreatPk13
import Derived.Test.YtofencldleijcaaGreatPk16
import Derived.Test.YtofencldleijcaaGreatPk15
import Derived.Test.YtofencldleijcaaGreatPk10
import Derived.Deep.Cut
import Derived.Deep.CutRange
set_option maxRecDepth 100000
set_option maxHeartbeats 4000000
namespace Go.Proofs.YtofencldleijcaaGreat
open Go.RowKit Go.Maps Go.Proofs.Tryz
def LG (x:Nat->Ti)(now:Int)(i:Nat):Bool:=JK (x i) now&&(i==0||ER (x (i-1)).client (x i).client)
def K1 (n:Nat)(x:Nat->Ti)(now:Int):Bool:=decide (n<=50)&&Be (LG x now) n
theorem Nz{P:Prop}(h:P:=by
  refine AA Ze Ze ?_;repeat(go_big_quiet_step((first|(go_at_call 64;exact Bf ((AU _ _ hfc).mono (λe w' h=>⟨h.1,h.2▸Al _ _⟩)))|(go_at_call 28;exact Bf ((BY _ _ _ _).mono (λe w' h=>⟨h.1,h.2▸Al _ _⟩))))))
  refine wpQuiet_nil ?_;rintro w2 ⟨u,hu⟩;have hw2:Below (wr.1.size+1) (wr.alloc (.cells (vT (x (m+1))) 117)) w2:=by have h9:=hu▸u.prop;simpa using h9
  clear hu u;go_wp2;go_ret;exact⟨Av HE.symm,(hBw.alloc hBw.size _).trans (hw2.mono Zb)⟩):P:=h
theorem NK{P:Prop}(h:P:=by
  refine AA Ze Ze ?_;repeat(go_big_quiet_step((first|(go_at_call 64;exact Bf ((AU _ _ hfc).mono (λe w' h=>⟨h.1,h.2▸Al _ _⟩)))|(go_at_call 28;exact Bf ((BY _ _ _ _).mono (λe w' h=>⟨h.1,h.2▸Al _ _⟩))))))
  refine wpQuiet_nil ?_;rintro w2 ⟨u,hu⟩;have hw2:Below (wr.1.size+1) (wr.alloc (.cells (vT (x (k))) 117)) w2:=by have h9:=hu▸u.prop;simpa using h9
  clear hu u;go_wp2;go_ret;exact⟨Av HE.symm,(hBw.alloc hBw.size _).trans (hw2.mono Zb)⟩):P:=h
theorem PW (now floor:Int)(n:Nat)(x:Nat->Ti)(a1 a2 a3:OA)(n1 c1 n2 c2 c3:Nat)(w:World)(lo hi:Nat)(hhi:hi<=w.1.size)(hl:(n:Int)<=1099511627776)(hf:∀i,i<n->T7 (x i))(hc:C5 w lo hi a3 n x):Calls prog 44 #[.agg #[.i now,.i floor,.l a1 n1 c1,.l a2 n2 c2,.l a3 n c3]] w λe w'=>e=.returned (.bool (K1 n x now))/\Below w.1.size w w':=by
 by_cases h50:(50:Int)<n;.have HE:=Ag (show K1 n x now=false by unfold K1;rw[decide_eq_false Zb];rfl);go_enter func44,ntmps44;go_wp2;go_ret;exact⟨Av HE.symm,Am _ _⟩
 go_enter func44,ntmps44;go_wp2;go_loopw[3](λi wr=>∃k:Nat,k<=n/\i=.i k/\(∀j,j<k->LG x now j=true)/\Below (w.1.size+1) (w.alloc (.cells #[.i now,.i floor,.l a1 n1 c1,.l a2 n2 c2,.l a3 n c3] 27)) wr)(λi _=>n-(intOf i).toNat);case atStart=>exact⟨0,Aw _,rfl,λj hj=>absurd hj (Ai _),Al _ _⟩
 case round=>
  obtain⟨k,hk,rfl,hall,hb⟩:=hrel;have hBw:Below w.1.size w wr:=(Am _ _).trans (hb.mono Zb);have hsz:w.1.size+1<=wr.1.size:=by have:=hb.size;simpa using this
  have e0:wr.cell? ⟨w.1.size,0,none⟩=some (.i now):=(hb.cell (p:=⟨w.1.size,0,none⟩) Zg).trans Zc;have e4:wr.cell? ⟨w.1.size,4,none⟩=some (.slice a3 n c3):=(hb.cell (p:=⟨w.1.size,4,none⟩) Zg).trans Zc;by_cases hkn:k<n
  .obtain⟨b,off,rfl,hlo,hbh,hcx⟩:=hc k hkn;have hfc:=(hf k hkn).c;have hfp:=(hf k hkn).p;obtain⟨d0,d1,d2,d3,d4⟩:=hcx.below hBw Zb;have hbw:b<wr.1.size:=Zb;have hzw:w.1.size<wr.1.size:=Zb;have HA:=Ag hall;have hne:Nonempty (GW (wr.alloc (.cells (vT (x k)) 117))):=⟨⟨_,Al _ _⟩⟩;have z0:=Ah (W1:=wr.alloc (.cells (vT (x k)) 117)) (p:=⟨w.1.size,0,none⟩) ((Aq _ _ _ hzw).trans e0) Zd;have z4:=Ah (W1:=wr.alloc (.cells (vT (x k)) 117)) (p:=⟨w.1.size,4,none⟩) ((Aq _ _ _ hzw).trans e4) Zd;have x0:=Ah (W1:=wr.alloc (.cells (vT (x k)) 117)) (p:=⟨wr.1.size,0,none⟩) (v:=.s (x k).client) Zc Zc;have x1:=Ah (W1:=wr.alloc (.cells (vT (x k)) 117)) (p:=⟨wr.1.size,1,none⟩) (v:=.i (x k).num) Zc Zc;have x2:=Ah (W1:=wr.alloc (.cells (vT (x k)) 117)) (p:=⟨wr.1.size,2,none⟩) (v:=.s (x k).print) Zc Zc;have x3:=Ah (W1:=wr.alloc (.cells (vT (x k)) 117)) (p:=⟨wr.1.size,3,none⟩) (v:=.i (x k).code) Zc Zc;have x4:=Ah (W1:=wr.alloc (.cells (vT (x k)) 117)) (p:=⟨wr.1.size,4,none⟩) (v:=.i (x k).ver) Zc Zc;clear hall hcx;have hd9:=d0;go_wp2;clear d0 d1 d2 d3 d4 e0 e4;cases hn:By (x k).client with
   |false=>clear hc hf;have HE:=Ag (show K1 n x now=false by unfold K1;rw[AV (p:=LG x now) hkn (by simp[LG,JK,hn])];simp);exact NK
   |true=>
    rcases BF k with hk0|hpos
    .clear hc hf;have hg:decide ((0:Int)<(k:Int))=false:=decide_eq_false Zb;have hg2:decide (0<k)=false:=decide_eq_false Zb;have hkb:(k==0)=true:=by simp[hk0]
     clear hk0;cases h1:DW (x (k)).num 1 1000000 with
     |false=>have HE:=Ag (show K1 n x now=false by unfold K1;rw[AV (p:=LG x now) hkn (by simp[LG,JK,hn,hkb,h1])];simp);exact NK
     |true=>
     by_cases hp:(x (k)).print.size=8;case neg=>have hpz:(((x (k)).print.size:Int)==8)=false:=Zd;have hpn:(((x (k)).print.size:Int) !=8)=true:=Zd;have HE:=Ag (show K1 n x now=false by unfold K1;rw[AV (p:=LG x now) hkn (by simp[LG,JK,hn,hkb,h1,hp])];simp);exact NK
     have hpz:(((x (k)).print.size:Int)==8)=true:=Zd;have hpn:(((x (k)).print.size:Int) !=8)=false:=Zd;have mO:=Ag hp;clear hp;cases h2:DW (x (k)).code 0 9 with
     |false=>have HE:=Ag (show K1 n x now=false by unfold K1;rw[AV (p:=LG x now) hkn (by simp[LG,JK,hn,hkb,h1,h2])];simp);exact NK
     |true=>cases h3:DW (x (k)).ver 0 now with
     |false=>have HE:=Ag (show K1 n x now=false by unfold K1;rw[AV (p:=LG x now) hkn (by simp[LG,JK,hn,hkb,h1,h2,h3])];simp);exact NK
     |true=>
      have HN:=Ag (show LG x now (k)=true by simp[LG,JK,hn,hkb,h1,h2,h3,mO.out]);refine AA Ze Ze ?_;repeat(go_big_quiet_step((first|(go_at_call 64;exact Bf ((AU _ _ hfc).mono (λe w' h=>⟨h.1,h.2▸Al _ _⟩)))|(go_at_call 28;exact Bf ((BY _ _ _ _).mono (λe w' h=>⟨h.1,h.2▸Al _ _⟩))))))
      refine wpQuiet_nil ?_;rintro w2 ⟨u,hu⟩;have hw2:Below (wr.1.size+1) (wr.alloc (.cells (vT (x (k))) 117)) w2:=by have h9:=hu▸u.prop;simpa using h9
      clear hu u;go_wp2;go_roundw;case rel=>exact⟨k+1,Zb,by go_num,λj hj=>(by
       rcases At j (k)with h3|h3;.exact HA j h3
       .have:j=k:=Zb;subst this;exact HN),(hb.alloc hsz _).trans (hw2.mono Zb)⟩
      case measure=>simp[intOf];omega
    .obtain⟨m,rfl⟩:∃m,k=m+1:=⟨k-1,Zb⟩;obtain⟨b',off',e,_,_,hcy⟩:=hc m Zb;cases e;have y0:=Ah (W1:=wr.alloc (.cells (vT (x (m+1))) 117)) (p:=⟨b,off+m*5,none⟩) ((Aq _ _ _ hbw).trans (hcy.below hBw Zb).c0) Zd;have hg:decide ((0:Int)<((m+1:Nat):Int))=true:=decide_eq_true Zb;clear hc hf hcy;cases hlt:ER (x m).client (x (m+1)).client with
     |false=>have hlt':Op.bytesLess (x m).client.toList (x (m+1)).client.toList=false:=hlt;have HE:=Ag (show K1 n x now=false by unfold K1;rw[AV (p:=LG x now) hkn (by simp[LG,JK,hlt])];simp);exact Nz
     |true=>have hlt':Op.bytesLess (x m).client.toList (x (m+1)).client.toList=true:=hlt;cases h1:DW (x (m+1)).num 1 1000000 with
     |false=>have HE:=Ag (show K1 n x now=false by unfold K1;rw[AV (p:=LG x now) hkn (by simp[LG,JK,hn,hlt,h1])];simp);exact Nz
     |true=>
     by_cases hp:(x (m+1)).print.size=8;case neg=>have hpz:(((x (m+1)).print.size:Int)==8)=false:=Zd;have hpn:(((x (m+1)).print.size:Int) !=8)=true:=Zd;have HE:=Ag (show K1 n x now=false by unfold K1;rw[AV (p:=LG x now) hkn (by simp[LG,JK,hn,hlt,h1,hp])];simp);exact Nz
     have hpz:(((x (m+1)).print.size:Int)==8)=true:=Zd;have hpn:(((x (m+1)).print.size:Int) !=8)=false:=Zd;have mO:=Ag hp;clear hp;cases h2:DW (x (m+1)).code 0 9 with
     |false=>have HE:=Ag (show K1 n x now=false by unfold K1;rw[AV (p:=LG x now) hkn (by simp[LG,JK,hn,hlt,h1,h2])];simp);exact Nz
     |true=>cases h3:DW (x (m+1)).ver 0 now with
     |false=>have HE:=Ag (show K1 n x now=false by unfold K1;rw[AV (p:=LG x now) hkn (by simp[LG,JK,hn,hlt,h1,h2,h3])];simp);exact Nz
     |true=>
      have HN:=Ag (show LG x now (m+1)=true by simp[LG,JK,hn,hlt,h1,h2,h3,mO.out]);refine AA Ze Ze ?_;repeat(go_big_quiet_step((first|(go_at_call 64;exact Bf ((AU _ _ hfc).mono (λe w' h=>⟨h.1,h.2▸Al _ _⟩)))|(go_at_call 28;exact Bf ((BY _ _ _ _).mono (λe w' h=>⟨h.1,h.2▸Al _ _⟩))))))
      refine wpQuiet_nil ?_;rintro w2 ⟨u,hu⟩;have hw2:Below (wr.1.size+1) (wr.alloc (.cells (vT (x (m+1))) 117)) w2:=by have h9:=hu▸u.prop;simpa using h9
      clear hu u;go_wp2;go_roundw;case rel=>exact⟨m+1+1,Zb,by go_num,λj hj=>(by
       rcases At j (m+1)with h3|h3;.exact HA j h3
       .have:j=m+1:=Zb;subst this;exact HN),(hb.alloc hsz _).trans (hw2.mono Zb)⟩
      case measure=>simp[intOf];omega
  .have HE:=Ag (show K1 n x now=true by unfold K1;rw[decide_eq_true (show n<=50 by omega),AC.2 (λi hi=>hall i Zb)];rfl);clear hc hf hall;go_wp2;go_ret;exact⟨Av HE.symm,hBw⟩
def cE (gn en:Bool)(hn:Nat)(bo ve:Int):Bool:=if gn then en&&(decide (hn=0)&&!decide (bo=ve))else(!en||decide (0<hn))
def Ge (now floor:Int)(h:Nat->Ch)(i:Nat):Bool:=decide ((h i).ver=floor+1+i)&&(E5 (h i) now&&Gj floor h i)
def Dw (now floor:Int)(m:Nat)(x:Nat->Ob)(n:Nat)(h:Nat->Ch):Bool:=decide (n<=200)&&(decide ((n:Int)=now-floor)&&(Be (Ge now floor h) n&&MB floor m x n h))
theorem Qt{x:Ob}{now:Int}(h:Bh x now=true):x.born<=x.ver:=by unfold Bh DW at h;simp at h;omega
theorem cB (ve:Int)(gn:Bool)(ki na:ByteArray)(bo:Int)(te:ByteArray)(en:Bool)(hn:Nat)(hs:Nat->ByteArray)(now:Int)(hp:Bh ⟨ki,na,ve,bo,te,en,hn,hs⟩ now=true):E5 ⟨ve,gn,⟨ki,na,ve,bo,te,en,hn,hs⟩⟩ now=cE gn en hn bo ve:=by have h1:=Qt hp;dsimp only at h1;unfold E5 cE;simp only[hp];cases gn with
 |false=>simp[CJ]
 |true=>
  have h2:decide (bo<ve)=!decide (bo=ve):=by
   by_cases h:bo=ve;.rw[decide_eq_true h,decide_eq_false Zb];rfl
   .rw[decide_eq_false h,decide_eq_true Zb];rfl
  simp[JZ,h2]
theorem WI (n:Nat)(s:Nat->ByteArray)(m:Nat)(t:Nat->ByteArray):QO n s m t=QO m t n s:=by
 unfold QO;by_cases h:n=m;.subst h;rw[show(λi=>decide (s i=t i))=λi=>decide (t i=s i)from funext λi=>by rw[decide_eq_decide];exact⟨Eq.symm,Eq.symm⟩]
 .rw[decide_eq_false h,decide_eq_false (λe=>h e.symm)];rfl
theorem I7{α:Type}[DecidableEq α](a b:α):decide (a=b)=decide (b=a):=by rw[decide_eq_decide];exact⟨Eq.symm,Eq.symm⟩
theorem Te (x z:Ob):BT x z=BT z x:=by unfold BT;rw[I7 x.kind,I7 x.name,I7 x.ver,I7 x.born,I7 x.text,I7 x.ending,WI]
theorem WP{P:Prop}(h:P:=by
  refine AA Ze Ze ?_;repeat(go_big_quiet_step((go_at_call 31;go_must(exact Bf (hK _)))))
  refine wpQuiet_nil ?_;rintro w4 ⟨u,hu⟩;have hw4:Below w3.1.size w3 w4:=hu▸u.prop;clear hu u hne;have hB4:=hB3.trans (hw4.mono Zb);clear x0 x1 x2 x3 x4 x5 x6 x7 x8 xr3 xv3 y5 y1 hK;go_wp2;go_ret;exact⟨Av HE.symm,(Am _ _).trans (hB4.mono Zb)⟩):P:=h
theorem So{P:Prop}(h:P:=by
  go_wp2;go_roundw;case rel=>exact⟨k+1,Zb,by go_num,λj hj=>(by
   rcases At j k with h3|h3;.exact HA j h3
   .have:j=k:=Zb;subst this;exact HN),hB4⟩
  case measure=>simp[intOf];omega):P:=h
theorem YF{P:Prop}(h:P:=by
  refine AA Ze Ze ?_;repeat(go_big_quiet_step((go_at_call 71;go_must(exact Bf (hSU _)))))
  refine wpQuiet_nil ?_;rintro w2 ⟨u,hu⟩;have hw2:Below w1.1.size w1 w2:=hu▸u.prop;clear hu u hne;have hB2:=hB1.trans (hw2.mono Zb);clear u1 u2 u3 v1 hSU xx0 xx1 xx2 xx3 xx4 xx5 xx6 y2 y3 y4 y5 y6 y7 y8;go_wp2;go_ret;exact⟨Av HE.symm,(Am _ _).trans (hB2.mono Zb)⟩):P:=h
theorem WY{P:Prop}(h:P:=by
  refine AA Ze Ze ?_;repeat(go_big_quiet_step((go_at_call 31;go_must(exact Bf (hK _)))))
  refine wpQuiet_nil ?_;rintro w4 ⟨u,hu⟩;have hw4:Below w3.1.size w3 w4:=hu▸u.prop;clear hu u hne;have hB4:=hB3.trans (hw4.mono Zb);clear x0 x1 x2 x3 x4 x5 x6 x7 x8 xr3 xv3 y5 y1 hK;exact So):P:=h
theorem Wg{P:Prop}(h:P:=by rw[hg]at f1;have y1:=Ah f1 Zq;have HE:=Ag (show Dw now floor m x n h=false by unfold Dw;rw[AV (p:=Ge now floor h) hkn (by unfold Ge;rw[cZ.out];simp[Gf,hcr,hg])];simp);clear hcr hg f1;exact WP):P:=h
theorem Xr{P:Prop}(h:P:=by
  go_wp2;go_roundw;case rel=>exact⟨k+1,Zb,by go_num,hB2,λj hj=>(by
   rcases At j k with h3|h3;.exact HA j h3
   .have:j=k:=Zb;subst this;exact HN)⟩
  case measure=>simp[intOf];omega):P:=h
theorem Pt (now floor:Int)(m n:Nat)(x:Nat->Ob)(h:Nat->Ch)(a1 a2 a3:OA)(c1 c2 n3 c3:Nat)(w:World)(lo hi:Nat)(hhi:hi<=w.1.size)(hm:(m:Int)<=1099511627776)(hl:(n:Int)<=1099511627776)(hfl:0<=floor)(hno:floor<=now)(hnm:now<=1000000)(hx:∀i,i<m->DD (x i))(hf:∀i,i<n->DD (h i).ob)(hco:Bs w lo hi a1 m x)(hc:Dr w lo hi a2 n h):Calls prog 43 #[.agg #[.i now,.i floor,.l a1 m c1,.l a2 n c2,.l a3 n3 c3]] w λe w'=>e=.returned (.bool (Dw now floor m x n h))/\Below w.1.size w w':=by
 by_cases h200:(200:Int)<n;.have HE:=Ag (show Dw now floor m x n h=false by unfold Dw;rw[decide_eq_false Zb];rfl);go_enter func43,ntmps43;go_wp2;go_ret;exact⟨Av HE.symm,Am _ _⟩
 by_cases hnf:(n:Int)=now-floor;case neg=>have HE:=Ag (show Dw now floor m x n h=false by unfold Dw;rw[decide_eq_false hnf];simp);go_enter func43,ntmps43;go_wp2;go_ret;exact⟨Av HE.symm,Am _ _⟩
 have m7:=Ag hnf;have hnf2:now-floor=(n:Int):=Zb;clear hnf;go_enter func43,ntmps43;go_wp2;clear hnf2;go_loopw[3](λi wr=>∃k:Nat,k<=n/\i=.i k/\(∀j,j<k->Ge now floor h j=true)/\Below (w.1.size+1) (w.alloc (.cells #[.i now,.i floor,.l a1 m c1,.l a2 n c2,.l a3 n3 c3] 27)) wr)(λi _=>n-(intOf i).toNat);case atStart=>exact⟨0,Aw _,rfl,λj hj=>absurd hj (Ai _),Al _ _⟩
 case round=>
  obtain⟨k,hk,rfl,hall,hb⟩:=hrel;have hBw:Below w.1.size w wr:=(Am _ _).trans (hb.mono Zb);have hsz:w.1.size+1<=wr.1.size:=by have:=hb.size;simpa using this
  have hwz:w.1.size<wr.1.size:=Zb;have o0:=As Mj 0;have o1:=As Mj 1;have o2:=As Mj 2;have o3:=As Mj 3;simp only[Ac,Ab,Aa]at o0 o1 o2 o3;by_cases hkn:k<n
  .obtain⟨b,off,ah,ch,rfl,hlo,hbh,hcx,hsx⟩:=hc k hkn;have hfk:=hf k hkn;have hcx:=hcx.below hBw Zb;have hs1:=hsx.below hBw hhi;have HA:=Ag hall;have HF:=Ag hf;have oT:=Ag hco;have HX:=Ag hx;have Oq:=Ag hc;obtain⟨c,hce⟩:∃c,h k=c:=⟨_,rfl⟩;rw[hce]at hcx hfk hs1;have ZA:=Ag hce;obtain⟨ve,gn,ki,na,ov,bo,te,en,hn,hs⟩:=c;obtain⟨d0,d1,d2,d3,d4,d5,d6,d7,d8⟩:=hcx;dsimp only at d0 d1 d2 d3 d4 d5 d6 d7 d8 hs1 hfk;clear hall hc hf hsx hco hx hce;have hkz:(k:Int)+1<=n:=Zb;by_cases hv:ve=floor+1+k;case neg=>have HE:=Ag (show Dw now floor m x n h=false by unfold Dw;rw[AV (p:=Ge now floor h) hkn (by unfold Ge;rw[ZA.out,decide_eq_false hv];rfl)];simp);go_wp2;go_ret;exact⟨Av HE.symm,(hBw.alloc hBw.size _).alloc Zd _⟩
   subst hv;by_cases hov:ov=floor+1+k;case neg=>have HE:=Ag (show Dw now floor m x n h=false by unfold Dw;rw[AV (p:=Ge now floor h) hkn (by unfold Ge E5;rw[ZA.out];simp[hov])];simp);go_wp2;go_ret;exact⟨Av HE.symm,(hBw.alloc hBw.size _).alloc Zd _⟩
   subst hov;have hC:=OI ⟨ki,na,floor+1+k,bo,te,en,hn,hs⟩ now ah ch ((wr.alloc (.cells #[.i (floor+1+k),.bool gn,.s ki,.s na,.i (floor+1+k),.i bo,.s te,.bool en,.l ah hn ch] 63)).alloc (.cells #[.s ki,.s na,.i (floor+1+k),.i bo,.s te,.bool en,.l ah hn ch] 61)) lo hi Zd hfk ((hs1.alloc Zb _).alloc Zd _);dsimp only[vO]at hC;cases hp:Bh ⟨ki,na,floor+1+k,bo,te,en,hn,hs⟩ now with
   |false=>have HE:=Ag (show Dw now floor m x n h=false by unfold Dw;rw[AV (p:=Ge now floor h) hkn (by unfold Ge E5;rw[ZA.out];simp[hp])];simp);go_wp2_with fail;refine hC.mono ?_;rintro e w2 ⟨rfl,hb2⟩;rw[hp];clear hC;go_wp2;go_ret;exact⟨Av HE.symm,((hBw.alloc hBw.size _).alloc Zd _).trans (hb2.mono Zd)⟩
   |true=>
   have pC:=Ag (cB (floor+1+k) gn ki na bo te en hn hs now hp);have hnn:(hn:Int)<=140737488355328:=by have:=hfk.h;simpa using(by dsimp only at this;omega)
   go_upto_region 10 with(go_at_call 70;refine hC.mono ?_;rintro e w2 ⟨rfl,hb2⟩;rw[hp];clear hC);have hB2:Below (w.1.size+1) (w.alloc (.cells #[.i now,.i floor,.l a1 m c1,.l (some ⟨b,off,none⟩) n c2,.l a3 n3 c3] 27)) w2:=((hb.alloc hsz _).alloc Zd _).trans (hb2.mono Zd);have hz2:wr.1.size+2<=w2.1.size:=by have:=hb2.size;simp at this;omega
   have s0:=AI hb2 0;have s1:=AI hb2 1;have s2:=AI hb2 2;have s3:=AI hb2 3;have s4:=AI hb2 4;have s5:=AI hb2 5;have s6:=AI hb2 6;have s7:=AI hb2 7;have s8:=AI hb2 8;have t0:=As hb2 0;have t1:=As hb2 1;have t2:=As hb2 2;have t3:=As hb2 3;have t4:=As hb2 4;have t5:=As hb2 5;have t6:=As hb2 6;simp only[Ac,Ab,Aa,Au]at s0 s1 s2 s3 s4 s5 s6 s7 s8 t0 t1 t2 t3 t4 t5 t6;have o0:=As (by simpa using hB2) 0;have o1:=As (by simpa using hB2) 1;have o2:=As (by simpa using hB2) 2;have o3:=As (by simpa using hB2) 3;simp only[Ac,Ab,Aa]at o0 o1 o2 o3;clear hb2 d0 d1 d2 d3 d4 d5 d6 d7 d8 hp;go_cut[98]from 28 to 141 (λs98 wx=>s98=.bool (!cE gn en hn bo (floor+1+k))/\w2=wx);case first=>cases gn with
    |true=>cases en with
     |false=>go_wp2_with fail;go_meet;exact⟨rfl,rfl⟩
     |true=>
      by_cases h0:hn=0
      .subst h0;by_cases h1:bo=floor+1+k
       .subst h1;go_wp2_with fail;go_meet;exact⟨congrArg Value.bool (by simp[cE]),rfl⟩
       .have h1b:(bo==floor+1+k)=false:=by simp[h1]
        have HH:=Ag h1;clear h1;go_wp2_with fail;go_meet;exact⟨congrArg Value.bool (by simp[cE,HH.out]),rfl⟩
      .have h2:decide ((0:Int)<(hn:Int))=true:=decide_eq_true Zb;have h3:(0:Int)<hn:=Zb;have HH:=Ag h0;clear h0;go_wp2_with fail;go_meet;exact⟨congrArg Value.bool (by simp[cE,HH.out]),rfl⟩
    |false=>cases en with
     |false=>go_wp2_with fail;go_meet;exact⟨rfl,rfl⟩
     |true=>
      by_cases h0:hn=0;.subst h0;go_wp2_with fail;go_meet;exact⟨congrArg Value.bool (by simp[cE]),rfl⟩
      .have h2:((hn:Int)==0)=false:=Zd;have HH:=Ag h0;clear h0;go_wp2_with fail;go_meet;exact⟨congrArg Value.bool (by have:=HH.out;simp[cE];omega),rfl⟩
   case rest=>obtain⟨rfl,rfl⟩:=hcut;cases hgb:cE gn en hn bo (floor+1+k)with
   |false=>have HE:=Ag (show Dw now floor m x n h=false by unfold Dw;rw[AV (p:=Ge now floor h) hkn (by unfold Ge;rw[ZA.out,pC.out,hgb];simp)];simp);go_wp2;go_ret;exact⟨Av HE.symm,(Am _ _).trans (hB2.mono Zb)⟩
   |true=>have HG:=Ag (pC.trans hgb);clear hgb;have hBW2:Below w.1.size w w2:=(Am _ _).trans (hB2.mono Zb);have hL:=Hy n k h ⟨ki,na,floor+1+k,bo,te,en,hn,hs⟩ (some ⟨b,off,none⟩) ah c2 ch w2 lo hi Zb hl Zb (Oq.below hBW2 hhi);dsimp only[vO]at hL;have hK:=λw=>Mm ⟨floor+1+k,gn,⟨ki,na,floor+1+k,bo,te,en,hn,hs⟩⟩ ah ch w;dsimp only at hK;cases hfd:CM h ki na k with
   |none=>
    have Oi:D7 h ⟨ki,na,floor+1+k,bo,te,en,hn,hs⟩ k=-1:=by unfold D7;dsimp only;rw[hfd]
    have cZ:=Ag (show Gj floor h k=H6 ⟨floor+1+k,gn,⟨ki,na,floor+1+k,bo,te,en,hn,hs⟩⟩ floor by unfold Gj;rw[ZA.out];dsimp only;rw[hfd]);rw[Oi]at hL;clear Oi hfd;go_wp2_with fail;refine hL.mono ?_;rintro e w3 ⟨rfl,hb3⟩;clear hL;have q0:=(hb3.cell (p:=⟨wr.1.size,0,none⟩) Zj).trans s0;have q1:=(hb3.cell (p:=⟨wr.1.size,1,none⟩) Zj).trans s1;have q2:=(hb3.cell (p:=⟨wr.1.size,2,none⟩) Zj).trans s2;have q3:=(hb3.cell (p:=⟨wr.1.size,3,none⟩) Zj).trans s3;have q4:=(hb3.cell (p:=⟨wr.1.size,4,none⟩) Zj).trans s4;have q5:=(hb3.cell (p:=⟨wr.1.size,5,none⟩) Zj).trans s5;have q6:=(hb3.cell (p:=⟨wr.1.size,6,none⟩) Zj).trans s6;have q7:=(hb3.cell (p:=⟨wr.1.size,7,none⟩) Zj).trans s7;have q8:=(hb3.cell (p:=⟨wr.1.size,8,none⟩) Zj).trans s8;have r3:=(hb3.cell (p:=⟨wr.1.size+1,3,none⟩) (by show wr.1.size+1<_;omega)).trans t3;have v1:=(hb3.cell (p:=⟨w.1.size,1,none⟩) Zg).trans o1;have hz3:wr.1.size+2<=w3.1.size:=by have:=hb3.size;omega
    have hB3:=hB2.trans (hb3.mono Zb);clear s0 s1 s2 s3 s4 s5 s6 s7 s8 t0 t1 t2 t3 t4 t5 t6 o0 o1 o2 o3 hb3;go_wp2_with fail;refine(hK _).mono ?_;rintro e w4 ⟨rfl,hb4⟩;clear hK;have g3:=(hb4.cell (p:=⟨wr.1.size+1,3,none⟩) (by show wr.1.size+1<_;omega)).trans r3;have f1:=(hb4.cell (p:=⟨w.1.size,1,none⟩) Zg).trans v1;have hB4:=hB3.trans (hb4.mono Zb);clear q0 q1 q2 q3 q4 q5 q6 q7 q8 r3 v1 hb4;cases hcr:FK ⟨floor+1+k,gn,⟨ki,na,floor+1+k,bo,te,en,hn,hs⟩⟩with
    |true=>have HN:=Ag (show Ge now floor h k=true by unfold Ge;rw[cZ.out,ZA.out,HG.out];simp[H6,hcr]);exact So
    |false=>
     by_cases hbf:floor<bo;.have HE:=Ag (show Dw now floor m x n h=false by unfold Dw;rw[AV (p:=Ge now floor h) hkn (by unfold Ge;rw[cZ.out];have:¬bo<=floor:=Zb;simp[H6,hcr,this])];simp);go_wp2;go_ret;exact⟨Av HE.symm,(Am _ _).trans (hB4.mono Zb)⟩
     .have HN:=Ag (show Ge now floor h k=true by unfold Ge;rw[cZ.out,ZA.out,HG.out];have:bo<=floor:=Zb;simp[H6,this]);exact So
   |some i=>
    have hin:=(DZ hfd).1;have Oi:D7 h ⟨ki,na,floor+1+k,bo,te,en,hn,hs⟩ k=i:=by unfold D7;dsimp only;rw[hfd]
    have cZ:=Ag (show Gj floor h k=Gf (h i) ⟨floor+1+k,gn,⟨ki,na,floor+1+k,bo,te,en,hn,hs⟩⟩by unfold Gj;rw[ZA.out];dsimp only;rw[hfd]);rw[Oi]at hL;clear Oi hfd;obtain⟨b',off',ah',ch',e,hlo',hbh',hcy,hsy⟩:=Oq i Zb;cases e;have hiz:(i:Int)+1<=n:=Zb;have hi0:decide ((i:Int)<0)=false:=decide_eq_false Zb;go_wp2_with fail;refine hL.mono ?_;rintro e w3 ⟨rfl,hb3⟩;clear hL;have hz3:wr.1.size+2<=w3.1.size:=by have:=hb3.size;omega
    have q0:=(hb3.cell (p:=⟨wr.1.size,0,none⟩) Zj).trans s0;have q1:=(hb3.cell (p:=⟨wr.1.size,1,none⟩) Zj).trans s1;have q2:=(hb3.cell (p:=⟨wr.1.size,2,none⟩) Zj).trans s2;have q3:=(hb3.cell (p:=⟨wr.1.size,3,none⟩) Zj).trans s3;have q4:=(hb3.cell (p:=⟨wr.1.size,4,none⟩) Zj).trans s4;have q5:=(hb3.cell (p:=⟨wr.1.size,5,none⟩) Zj).trans s5;have q6:=(hb3.cell (p:=⟨wr.1.size,6,none⟩) Zj).trans s6;have q7:=(hb3.cell (p:=⟨wr.1.size,7,none⟩) Zj).trans s7;have q8:=(hb3.cell (p:=⟨wr.1.size,8,none⟩) Zj).trans s8;have r3:=(hb3.cell (p:=⟨wr.1.size+1,3,none⟩) (by show wr.1.size+1<_;omega)).trans t3;have v3:=(hb3.cell (p:=⟨w.1.size,3,none⟩) Zg).trans o3;have hB3:=hB2.trans (hb3.mono Zb);have hBw3:Below w.1.size w w3:=(Am _ _).trans (hB3.mono Zb);obtain⟨f0,f1,f2,f3,f4,f5,f6,f7,f8⟩:=hcy.below hBw3 Zb;clear s0 s1 s2 s3 s4 s5 s6 s7 s8 t0 t1 t2 t3 t4 t5 t6 o0 o1 o2 o3 hb3 hcy hsy;go_wp2;have x0:=Ah q0 Zj;have x1:=Ah q1 Zj;have x2:=Ah q2 Zj;have x3:=Ah q3 Zj;have x4:=Ah q4 Zj;have x5:=Ah q5 Zj;have x6:=Ah q6 Zj;have x7:=Ah q7 Zj;have x8:=Ah q8 Zj;have xr3:=Ah r3 (by show wr.1.size+1<_;omega);have xv3:=Ah v3 Zg;have y5:=Ah f5 Zq;have hne:Nonempty (GW w3):=⟨⟨_,Al _ _⟩⟩;obtain⟨pv,hpb⟩:∃pv,(h i).ob.born=pv:=⟨_,rfl⟩;rw[hpb]at y5;have iQ:=Ag hpb;clear hpb;clear q0 q1 q2 q3 q4 q5 q6 q7 q8 r3 v3 f0 f2 f3 f4 f5 f6 f7 f8;cases hcr:FK ⟨floor+1+k,gn,⟨ki,na,floor+1+k,bo,te,en,hn,hs⟩⟩with
    |true=>rw[hcr]at hK;cases hg:(h i).gone with
     |true=>rw[hg]at f1;have y1:=Ah f1 Zq;have HN:=Ag (show Ge now floor h k=true by unfold Ge;rw[cZ.out,ZA.out,HG.out];simp[Gf,hcr,hg]);clear hcr hg f1;exact WY
     |false=>exact Wg
    |false=>rw[hcr]at hK;cases hg:(h i).gone with
     |true=>exact Wg
     |false=>
      rw[hg]at f1;have y1:=Ah f1 Zq;by_cases hq:pv=bo
      .have hqb:(bo !=pv)=false:=by simp[hq]
       have HN:=Ag (show Ge now floor h k=true by unfold Ge;rw[cZ.out,ZA.out,HG.out];simp[Gf,hcr,hg,iQ.out,hq]);clear hcr hg f1 hq;exact WY
      .have hqb:(bo !=pv)=true:=by simp;exact λe=>hq e.symm
       have HE:=Ag (show Dw now floor m x n h=false by unfold Dw;rw[AV (p:=Ge now floor h) hkn (by unfold Ge;rw[cZ.out];simp[Gf,hcr,hg,iQ.out,hq])];simp);clear hcr hg f1 hq;exact WP
  .have:n=k:=Zb;subst this;have Uq:=Ag (show Be (Ge now floor h) n=true from AC.2 hall);clear hall;go_wp2;clear o0 o1 o2 o3;obtain⟨W,hW⟩:∃W,W=wr:=⟨wr,rfl⟩;subst hW;go_loopw[7](λi wq=>∃k:Nat,k<=m/\i=.i k/\Below (w.1.size+1) (w.alloc (.cells #[.i now,.i floor,.l a1 m c1,.l a2 n c2,.l a3 n3 c3] 27)) wq/\∀j,j<k->agO floor x n h j=true)(λi _=>m-(intOf i).toNat);case atStart=>exact⟨0,Aw _,rfl,hb,λj hj=>absurd hj (Ai _)⟩
   case round=>
    obtain⟨k,hk2,rfl,hb,hall⟩:=hrel;have hBw:Below w.1.size w wr:=(Am _ _).trans (hb.mono Zb);have hsz:w.1.size+1<=wr.1.size:=by have:=hb.size;simpa using this
    have hwz:w.1.size<wr.1.size:=Zb;have hhw:hi<=wr.1.size:=Zb;have o0:=As Mj 0;have o1:=As Mj 1;have o2:=As Mj 2;have o3:=As Mj 3;have o4:=As Mj 4;simp only[Ac,Ab,Aa]at o0 o1 o2 o3 o4;by_cases hkm:k<m
    .obtain⟨b,off,ah,ch,rfl,hlo,hbh,hcx,hsx⟩:=hco k hkm;have hxk:=hx k hkm;have hxh:((x k).hn:Int)<=140737488355328:=by have:=hxk.h;omega
     obtain⟨d0,d1,d2,d3,d4,d5,d6⟩:=hcx.below hBw Zb;have HA:=Ag hall;have HC:=Ag hc;have HF:=Ag hf;have HS:=Ag hsx;have hcu:∀u:GW wr,Dr u.val lo hi a2 n h:=λu=>hc.below (hBw.trans (u.prop.mono Zb)) hhi;have hhu:∀u:GW wr,hi<=u.val.1.size:=λu=>AG hhw u.prop.size;have hLU:∀u:GW wr,Calls prog 30 #[.l a2 n c2,.agg (vO (x k) ah ch),.i n] u.val λe w'=>e=.returned (.i (D7 h (x k) n))/\Below u.val.1.size u.val w':=λu=>Hy n n h (x k) a2 ah c2 ch _ lo hi (hhu u) hl Bg (hcu u);clear hall hc hf hco hx hcx hsx hcu hhu;have z2:=Ah o2 Zg;have z3:=Ah o3 Zg;have x0:=Ah d0 Zq;have x1:=Ah d1 Zq;have x2:=Ah d2 Zq;have x3:=Ah d3 Zq;have x4:=Ah d4 Zq;have x5:=Ah d5 Zq;have x6:=Ah d6 Zq;have hne:Nonempty (GW wr):=⟨⟨_,Al _ _⟩⟩;go_wp2;cases hfd:CM h (x k).kind (x k).name n with
     |none=>
      have Oi:D7 h (x k) n=-1:=by unfold D7;rw[hfd]
      have HL:=Ag (show agO floor x n h k=decide ((x k).ver<=floor)by unfold agO;rw[hfd]);simp only[Oi]at hLU;clear Oi hfd;refine AA Ze Ze ?_;repeat(go_big_quiet_step((go_at_call 30;go_must(exact Bf (hLU _)))))
      refine wpQuiet_nil ?_;rintro w1 ⟨u,hu⟩;have hw1:Below wr.1.size wr w1:=hu▸u.prop;clear hu u hne hLU z2 z3 x0 x1 x2 x3 x4 x5 x6;have hB1:=hb.trans (hw1.mono Zb);have p1:=(hw1.cell (p:=⟨w.1.size,1,none⟩) Zg).trans o1;have p2:=(hw1.cell (p:=⟨w.1.size,2,none⟩) Zg).trans o2;have p3:=(hw1.cell (p:=⟨w.1.size,3,none⟩) Zg).trans o3;have e2:=(hw1.cell (p:=⟨b,off+k*7+2,none⟩) Zq).trans d2;have hz1:wr.1.size<=w1.1.size:=hw1.size;have u1:=Ah p1 Zg;have u2:=Ah p2 Zg;have u3:=Ah p3 Zg;have y2:=Ah e2 Zq;have hne:Nonempty (GW w1):=⟨⟨_,Al _ _⟩⟩;clear d0 d1 d2 d3 d4 d5 d6 o0 o1 o2 o3 o4 p1 p2 p3 e2 hw1;go_wp2;by_cases hv:(x k).ver<=floor
      .have HN:=Ag (show agO floor x n h k=true by rw[HL.out];exact decide_eq_true hv);have hd:decide (floor<(x k).ver)=false:=decide_eq_false Zb;refine AA Ze Ze ?_;repeat(go_big_quiet_step(fail))
       refine wpQuiet_nil ?_;rintro w2 ⟨u,hu⟩;have hw2:Below w1.1.size w1 w2:=hu▸u.prop;clear hu u hne;have hB2:=hB1.trans (hw2.mono Zb);clear u1 u2 u3 y2;exact Xr
      .have HE:=Ag (show Dw now floor m x n h=false by unfold Dw MB;rw[AV (p:=agO floor x n h) hkm (HL.trans (decide_eq_false hv))];simp);have hd:decide (floor<(x k).ver)=true:=decide_eq_true Zb;refine AA Ze Ze ?_;repeat(go_big_quiet_step(fail))
       refine wpQuiet_nil ?_;rintro w2 ⟨u,hu⟩;have hw2:Below w1.1.size w1 w2:=hu▸u.prop;clear hu u hne;have hB2:=hB1.trans (hw2.mono Zb);clear u1 u2 u3 y2;go_wp2;go_ret;exact⟨Av HE.symm,(Am _ _).trans (hB2.mono Zb)⟩
     |some j=>
      have hjn:=(DZ hfd).1;have Oi:D7 h (x k) n=j:=by unfold D7;rw[hfd]
      have HL:=Ag (show agO floor x n h k=(!(h j).gone&&BT (h j).ob (x k))by unfold agO;rw[hfd,Te (h j).ob]);simp only[Oi]at hLU;clear Oi hfd;obtain⟨b',off',ah',ch',rfl,hlo',hbh',hcy,hsy⟩:=HC j hjn;have hjh:((h j).ob.hn:Int)<=140737488355328:=by have:=(HF j hjn).h;omega
      have nM:=Ag hsy;clear hsy;have hjz:(j:Int)+1<=n:=Zb;have hj0:decide ((0:Int)<=(j:Int))=true:=decide_eq_true Zb;have hj1:decide ((j:Int)<0)=false:=decide_eq_false Zb;refine AA Ze Ze ?_;repeat(go_big_quiet_step((go_at_call 30;go_must(exact Bf (hLU _)))))
      refine wpQuiet_nil ?_;rintro w1 ⟨u,hu⟩;have hw1:Below wr.1.size wr w1:=hu▸u.prop;clear hu u hne hLU z2 z3 x0 x1 x2 x3 x4 x5 x6;have hB1:=hb.trans (hw1.mono Zb);have hBw1:Below w.1.size w w1:=(Am _ _).trans (hB1.mono Zb);have hz1:wr.1.size<=w1.1.size:=hw1.size;have p1:=(hw1.cell (p:=⟨w.1.size,1,none⟩) Zg).trans o1;have p2:=(hw1.cell (p:=⟨w.1.size,2,none⟩) Zg).trans o2;have p3:=(hw1.cell (p:=⟨w.1.size,3,none⟩) Zg).trans o3;have u1:=Ah p1 Zg;have u2:=Ah p2 Zg;have u3:=Ah p3 Zg;have e0:=(hw1.cell (p:=⟨b,off+k*7,none⟩) Zq).trans d0;have e1:=(hw1.cell (p:=⟨b,off+k*7+1,none⟩) Zq).trans d1;have e2:=(hw1.cell (p:=⟨b,off+k*7+2,none⟩) Zq).trans d2;have e3:=(hw1.cell (p:=⟨b,off+k*7+3,none⟩) Zq).trans d3;have e4:=(hw1.cell (p:=⟨b,off+k*7+4,none⟩) Zq).trans d4;have e5:=(hw1.cell (p:=⟨b,off+k*7+5,none⟩) Zq).trans d5;have e6:=(hw1.cell (p:=⟨b,off+k*7+6,none⟩) Zq).trans d6;have xx0:=Ah e0 Zq;have xx1:=Ah e1 Zq;have xx2:=Ah e2 Zq;have xx3:=Ah e3 Zq;have xx4:=Ah e4 Zq;have xx5:=Ah e5 Zq;have xx6:=Ah e6 Zq;obtain⟨f0,f1,f2,f3,f4,f5,f6,f7,f8⟩:=hcy.below hBw1 Zb;have y2:=Ah f2 Qb;have y3:=Ah f3 Qb;have y4:=Ah f4 Qb;have y5:=Ah f5 Qb;have y6:=Ah f6 Qb;have y7:=Ah f7 Qb;have y8:=Ah f8 Qb;have hne:Nonempty (GW w1):=⟨⟨_,Al _ _⟩⟩;have hhw1:hi<=w1.1.size:=Zb;have hhu:∀u:GW w1,hi<=u.val.1.size:=λu=>AG hhw1 u.prop.size;have hu1:∀u:GW w1,Ax u.val lo hi ah (x k).hn (x k).hs:=λu=>HS.below (hBw1.trans (u.prop.mono Zb)) hhi;have hu2:∀u:GW w1,Ax u.val lo hi ah' (h j).ob.hn (h j).ob.hs:=λu=>nM.below (hBw1.trans (u.prop.mono Zb)) hhi;have hSU:∀u:GW w1,Calls prog 71 #[.agg (vO (h j).ob ah' ch'),.agg (vO (x k) ah ch)] u.val λe w'=>e=.returned (.bool (BT (h j).ob (x k)))/\Below u.val.1.size u.val w':=λu=>Sw (h j).ob (x k) ah' ah ch' ch _ lo hi (hhu u) hjh hxh (hu2 u) (hu1 u);clear d0 d1 d2 d3 d4 d5 d6 o0 o1 o2 o3 o4 p1 p2 p3 e0 e1 e2 e3 e4 e5 e6 hw1 hcy f0 f2 f3 f4 f5 f6 f7 f8 hhu hu1 hu2;go_wp2;cases hg:(h j).gone with
      |true=>have HE:=Ag (show Dw now floor m x n h=false by unfold Dw MB;rw[AV (p:=agO floor x n h) hkm (HL.trans (by rw[hg];rfl))];simp);rw[hg]at f1;have v1:=Ah f1 Qb;clear hg f1;exact YF
      |false=>rw[hg]at f1;have v1:=Ah f1 Qb;have I1:=Ag (show agO floor x n h k=BT (h j).ob (x k)by rw[HL.out,hg];rfl);clear hg f1;cases hsm:BT (h j).ob (x k)with
       |false=>have HE:=Ag (show Dw now floor m x n h=false by unfold Dw MB;rw[AV (p:=agO floor x n h) hkm (I1.trans hsm)];simp);simp only[hsm]at hSU;clear hsm;exact YF
       |true=>
        have HN:=Ag (I1.trans hsm);simp only[hsm]at hSU;clear hsm;refine AA Ze Ze ?_;repeat(go_big_quiet_step((go_at_call 71;go_must(exact Bf (hSU _)))))
        refine wpQuiet_nil ?_;rintro w2 ⟨u,hu⟩;have hw2:Below w1.1.size w1 w2:=hu▸u.prop;clear hu u hne;have hB2:=hB1.trans (hw2.mono Zb);clear u1 u2 u3 v1 hSU xx0 xx1 xx2 xx3 xx4 xx5 xx6 y2 y3 y4 y5 y6 y7 y8;exact Xr
    .have:m=k:=Zb;subst this;have RT:=Ag (show Be (agO floor x n h) m=true from AC.2 hall);clear hall;go_wp2;clear o0 o1 o2 o3 o4;obtain⟨V,hV⟩:∃V,V=wr:=⟨wr,rfl⟩;subst hV;go_loopw[9](λi wq=>∃k:Nat,k<=n/\i=.i k/\Below (w.1.size+1) (w.alloc (.cells #[.i now,.i floor,.l a1 m c1,.l a2 n c2,.l a3 n3 c3] 27)) wq/\∀j,j<k->agH m x n h j=true)(λi _=>n-(intOf i).toNat);case atStart=>exact⟨0,Aw _,rfl,hb,λj hj=>absurd hj (Ai _)⟩
     case round=>
      obtain⟨k,hk2,rfl,hb,hall⟩:=hrel;have hBw:Below w.1.size w wr:=(Am _ _).trans (hb.mono Zb);have hsz:w.1.size+1<=wr.1.size:=by have:=hb.size;simpa using this
      have hwz:w.1.size<wr.1.size:=Zb;have hhw:hi<=wr.1.size:=Zb;have o0:=As Mj 0;have o1:=As Mj 1;have o2:=As Mj 2;have o3:=As Mj 3;have o4:=As Mj 4;simp only[Ac,Ab,Aa]at o0 o1 o2 o3 o4;by_cases hkn2:k<n
      .obtain⟨b,off,ah,ch,rfl,hlo,hbh,hcx,hsx⟩:=hc k hkn2;obtain⟨d0,d1,d2,d3,d4,d5,d6,d7,d8⟩:=hcx.below hBw Zb;obtain⟨i',hli⟩:=NR (h:=h) hkn2;have Oi:D7 h (h k).ob n=i':=by unfold D7;rw[hli]
       have oX:=Ag hli;have hin:=(DZ hli).1;have hL:=Hy n n h (h k).ob (some ⟨b,off,none⟩) ah c2 ch (wr.alloc (.cells #[.i (h k).ver,.bool (h k).gone,.s (h k).ob.kind,.s (h k).ob.name,.i (h k).ob.ver,.i (h k).ob.born,.s (h k).ob.text,.bool (h k).ob.ending,.l ah (h k).ob.hn ch] 63)) lo hi Zd hl Bg (hc.below (hBw.alloc hBw.size _) hhi);rw[Oi]at hL;have HA:=Ag hall;have oT:=Ag hco;have HX:=Ag hx;clear Oi hli hall hc hf hcx hsx hco hx;go_wp2_with fail;refine hL.mono ?_;rintro e w1 ⟨rfl,hb1⟩;clear hL;have hB1:Below (w.1.size+1) (w.alloc (.cells #[.i now,.i floor,.l a1 m c1,.l (some ⟨b,off,none⟩) n c2,.l a3 n3 c3] 27)) w1:=(hb.alloc hsz _).trans (hb1.mono Zd);have hBw1:Below w.1.size w w1:=(Am _ _).trans (hB1.mono Zb);have hz1:wr.1.size+1<=w1.1.size:=by have:=hb1.size;simp at this;omega
       have p1:=As hb1 1;have p2:=As hb1 2;have p3:=As hb1 3;have o0:=As Vq 0;have o1:=As Vq 1;have o2:=As Vq 2;have o3:=As Vq 3;have o4:=As Vq 4;simp only[Ac,Ab,Aa]at p1 p2 p3 o0 o1 o2 o3 o4;clear d0 d1 d2 d3 d4 d5 d6 d7 d8 hb1;by_cases hii:i'=k;case neg=>
        have HN:=Ag (show agH m x n h k=true by unfold agH;rw[oX.out];simp[hii]);have hd:((i':Int) !=(k:Int))=true:=Zd;have hd2:¬(i':Int)=(k:Int):=Zb;clear hii;go_wp2;go_roundw;case rel=>exact⟨k+1,Zb,by go_num,hB1,λj hj=>(by
         rcases At j k with h3|h3;.exact HA j h3
         .have:j=k:=Zb;subst this;exact HN)⟩
        case measure=>simp[intOf];omega
       subst hii;cases hg:(h i').gone with
       |true=>
        have HN:=Ag (show agH m x n h i'=true by unfold agH;rw[hg];simp);rw[hg]at p1;clear hg;go_wp2;go_roundw;case rel=>exact⟨i'+1,Zb,by go_num,hB1,λj hj=>(by
         rcases At j i' with h3|h3;.exact HA j h3
         .have:j=i':=Zb;subst this;exact HN)⟩
        case measure=>simp[intOf];omega
       |false=>rw[hg]at p1;have HG:=Ag hg;clear hg;have hS:=BP now floor m x a1 (some ⟨b,off,none⟩) a3 c1 n c2 n3 c3 (h i').ob.kind (h i').ob.name w1 lo hi Zb hm HX (oT.below hBw1 hhi);cases hfn:B8 x (h i').ob.kind (h i').ob.name m with
        |false=>have HE:=Ag (show Dw now floor m x n h=false by unfold Dw MB;rw[AV (p:=agH m x n h) hkn2 (show agH m x n h i'=false by unfold agH;rw[oX.out,HG.out,show(Jb x (h i').ob.kind (h i').ob.name m).isSome=false from hfn];simp)];simp);rw[hfn]at hS;clear hfn;go_wp2_with fail;refine hS.mono ?_;rintro e w2 ⟨ad',cap',rfl,_,_,hb2⟩;have hB2:=hB1.trans (hb2.mono Zb);clear hS hb2;go_wp2;go_ret;exact⟨Av HE.symm,((Am _ _).trans (hB2.mono Zb)).alloc (by have:=hB2.size;simp at this;omega) _⟩
        |true=>
         have HN:=Ag (show agH m x n h i'=true by unfold agH;rw[show(Jb x (h i').ob.kind (h i').ob.name m).isSome=true from hfn];simp);rw[hfn]at hS;clear hfn;go_wp2_with fail;refine hS.mono ?_;rintro e w2 ⟨ad',cap',rfl,_,_,hb2⟩;have hB2:=hB1.trans (hb2.mono Zb);have hz2:w.1.size+1<=w2.1.size:=by have:=hB2.size;simp at this;omega
         clear hS hb2;go_wp2;go_roundw;case rel=>exact⟨i'+1,Zb,by go_num,(hB2.alloc hz2 _),λj hj=>(by
          rcases At j i' with h3|h3;.exact HA j h3
          .have:j=i':=Zb;subst this;exact HN)⟩
         case measure=>simp[intOf];omega
      .have HE:=Ag (show Dw now floor m x n h=true by unfold Dw MB;rw[decide_eq_true (show n<=200 by omega),decide_eq_true m7.out,Uq.out,RT.out,AC.2 (λi hi=>hall i Zb)];rfl);clear hall hc hf hco hx;go_wp2;go_ret;exact⟨Av HE.symm,hBw⟩
def VI (B:Bk):Bool:=I5 B.now B.floor&&(FL B.on B.os B.now&&(Dw B.now B.floor B.on B.os B.hn B.hs&&K1 B.tn B.ts B.now))
theorem LK (p q:Nat->Bool):∀n,Be (λi=>p i&&q i) n=(Be p n&&Be q n)
 |0=>rfl
 |n+1=>by simp only[Be,LK p q n];cases Be p n<;>cases Be q n<;>cases p n<;>cases q n<;>rfl
theorem bI (n:Nat)(x:Nat->Ob)(now:Int):FL n x now=(DK n x now&&DV n x):=by unfold FL DK;cases decide (n<=100)<;>cases E3 n x<;>cases Hs n x now<;>cases DV n x<;>rfl
theorem Z5 (now floor:Int)(m:Nat)(x:Nat->Ob)(n:Nat)(h:Nat->Ch):Dw now floor m x n h=(EQ now floor n h&&(Be (Gj floor h) n&&MB floor m x n h)):=by
 have h1:Be (Ge now floor h) n=(Be (λi=>decide ((h i).ver=floor+1+i)&&E5 (h i) now) n&&Be (Gj floor h) n):=by rw[<-LK];exact congrArg (λp=>Be p n) (funext λi=>by unfold Ge;cases decide ((h i).ver=floor+1+i)<;>cases E5 (h i) now<;>cases Gj floor h i<;>rfl)
 unfold Dw EQ;rw[h1];cases decide (n<=200)<;>cases decide ((n:Int)=now-floor)<;>cases Be (λi=>decide ((h i).ver=floor+1+i)&&E5 (h i) now) n<;>cases Be (Gj floor h) n<;>cases MB floor m x n h<;>rfl
theorem ZV (n:Nat)(x:Nat->Ti)(now:Int):K1 n x now=Gg n x now:=by
 unfold K1 Gg;have h1:Be (LG x now) n=(Be (λi=>JK (x i) now) n&&Be (λi=>i==0||ER (x (i-1)).client (x i).client) n):=by rw[<-LK];rfl
 rw[h1];unfold Mb;cases decide (n<=50)<;>cases Be (λi=>JK (x i) now) n<;>cases Be (λi=>i==0||ER (x (i-1)).client (x i).client) n<;>rfl
theorem XF (B:Bk):VI B=Be (Hw B) 7:=by unfold VI;rw[bI,Z5,ZV];simp only[Be,Hw];cases I5 B.now B.floor<;>cases DK B.on B.os B.now<;>cases DV B.on B.os<;>cases EQ B.now B.floor B.hn B.hs<;>cases Be (Gj B.floor B.hs) B.hn<;>cases MB B.floor B.on B.os B.hn B.hs<;>cases Gg B.tn B.ts B.now<;>rfl
theorem Gp (B:Bk)(a1 a2 a3:OA)(c1 c2 c3:Nat)(w:World)(lo hi:Nat)(hhi:hi<=w.1.size)(hfit:Dm B)(hin:B7 w lo hi B a1 a2 a3):Calls prog 15 #[.agg (vB B a1 a2 a3 c1 c2 c3)] w λe w'=>e=.returned (.bool (Be (Hw B) 7))/\Below w.1.size w w':=by rw[<-XF];obtain⟨f1,f2,f3,f4,f5,f6⟩:=hfit;cases h1:DW B.now 0 1000000 with
 |false=>have HE:=Ag (show VI B=false by unfold VI I5;rw[h1];rfl);go_enter func15,ntmps15;go_wp2_with (go_at_call 28;refine(BY _ _ _ _).mono ?_;rintro e w1 ⟨rfl,rfl⟩;rw[h1]);go_ret;exact⟨Av HE.symm,Am _ _⟩
 |true=>cases h2:DW B.floor 0 B.now with
 |false=>have HE:=Ag (show VI B=false by unfold VI I5;rw[h2];simp);go_enter func15,ntmps15;go_wp2_with (go_at_call 28;refine(BY _ _ _ _).mono ?_;rintro e w1 ⟨rfl,rfl⟩;first|rw[h1]|rw[h2]);go_ret;exact⟨Av HE.symm,Am _ _⟩
 |true=>have HN:=Ag (show I5 B.now B.floor=true by unfold I5;rw[h1,h2];rfl);obtain⟨n1,n2,n3⟩:=K8 HN;have N1:=Ag n1;have N2:=Ag n2;have N3:=Ag n3;clear n1 n2 n3;have hA:=Ag (show B7 (w.alloc (.cells (vB B a1 a2 a3 c1 c2 c3) 27)) lo hi B a1 a2 a3 from hin.below (Am _ _) hhi);clear hin;go_enter func15,ntmps15;go_wp2_with (go_at_call 28;refine(BY _ _ _ _).mono ?_;rintro e w1 ⟨rfl,rfl⟩;first|rw[h1]|rw[h2]);refine(P1 B.now B.floor B.on B.os a1 a2 a3 c1 B.hn c2 B.tn c3 _ lo hi Zd Zb f4 hA.o).mono ?_;rintro e w1 ⟨rfl,hb1⟩;cases ho:FL B.on B.os B.now with
 |false=>have HE:=Ag (show VI B=false by unfold VI;rw[ho];simp);go_wp2;go_ret;exact⟨Av HE.symm,(Am _ _).trans (hb1.mono Zc)⟩
 |true=>
 have HO:=Ag ho;have p0:=As hb1 0;have p1:=As hb1 1;have p2:=As hb1 2;have p3:=As hb1 3;have p4:=As hb1 4;simp only[Ac,Ab,Aa]at p0 p1 p2 p3 p4;have hz1:w.1.size<w1.1.size:=by have:=hb1.size;simp at this;omega
 have hA1:=Ag (hA.below hb1 Zd);have hB1:Below w.1.size w w1:=(Am _ _).trans (hb1.mono Zc);clear hb1 hA ho;go_wp2_with fail;refine(Pt B.now B.floor B.on B.hn B.os B.hs a1 a2 a3 c1 c2 B.tn c3 w1 lo hi Zb Zb Zb N1 N2 N3 f4 f5 hA1.o hA1.h).mono ?_;rintro e w2 ⟨rfl,hb2⟩;cases hh:Dw B.now B.floor B.on B.os B.hn B.hs with
 |false=>have HE:=Ag (show VI B=false by unfold VI;rw[hh];simp);go_wp2;go_ret;exact⟨Av HE.symm,hB1.trans (hb2.mono Zb)⟩
 |true=>
 have HH:=Ag hh;have q0:=(hb2.cell (p:=⟨w.1.size,0,none⟩) hz1).trans p0;have q1:=(hb2.cell (p:=⟨w.1.size,1,none⟩) hz1).trans p1;have q2:=(hb2.cell (p:=⟨w.1.size,2,none⟩) hz1).trans p2;have q3:=(hb2.cell (p:=⟨w.1.size,3,none⟩) hz1).trans p3;have q4:=(hb2.cell (p:=⟨w.1.size,4,none⟩) hz1).trans p4;have hA2:=Ag (hA1.below hb2 Zb);have hB2:Below w.1.size w w2:=hB1.trans (hb2.mono Zb);have hz2:w.1.size<w2.1.size:=by have:=hb2.size;omega
 clear hb2 hA1 hh p0 p1 p2 p3 p4;go_wp2_with fail;refine(PW B.now B.floor B.tn B.ts a1 a2 a3 B.on c1 B.hn c2 c3 w2 lo hi Zb Zb f6 hA2.t).mono ?_;rintro e w3 ⟨rfl,hb3⟩;have HE:=Ag (show VI B=K1 B.tn B.ts B.now by unfold VI;rw[HN.out,HO.out,HH.out];rfl);clear q0 q1 q2 q3 q4;go_wp2;go_ret;exact⟨Av HE.symm,hB2.trans (hb3.mono Zb)⟩
end Go.Proofs.YtofencldleijcaaGreat
