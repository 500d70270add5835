import Derived.Test.YtnnjcenacidceaaPk14
import Derived.Test.YtnnjcenacidceaaPk16
import Derived.Test.YtnnjcenacidceaaPk15
import Derived.Test.YtnnjcenacidceaaPk11
import Derived.Deep.Cut
import Derived.Deep.CutRange
set_option maxRecDepth 100000
set_option maxHeartbeats 4000000
namespace Go.Proofs.Ytnnjcenacidceaa
open Go.RowKit Go.Maps Go.Proofs.Try
def Po (x:Nat->Ti)(now:Int)(i:Nat):Bool:=Nu (x i) now&&(i==0||KW (x (i-1)).client (x i).client)
def OE (n:Nat)(x:Nat->Ti)(now:Int):Bool:=decide (n<=50)&&Bc (Po x now) n
theorem Ro{P:Prop}(h:P:=by
  refine AE Ze Ze ?_;repeat(go_big_quiet_step((first|(go_at_call 67;exact Bf ((AV _ _ hfc).mono (λe w' h=>⟨h.1,h.2▸Ao _ _⟩)))|(go_at_call 37;exact Bf ((BM _ _ _ _).mono (λe w' h=>⟨h.1,h.2▸Ao _ _⟩))))))
  refine wpQuiet_nil ?_;rintro w2 ⟨u,hu⟩;have hw2:Below (wr.1.size+1) (wr.alloc (.cells (vT (x (m+1))) 89)) w2:=by have h9:=hu▸u.prop;simpa using h9
  clear hu u;go_wp2;go_ret;exact⟨Ay HE.symm,(hBw.alloc hBw.size _).trans (hw2.mono Za)⟩):P:=h
theorem Rz{P:Prop}(h:P:=by
  refine AE Ze Ze ?_;repeat(go_big_quiet_step((first|(go_at_call 67;exact Bf ((AV _ _ hfc).mono (λe w' h=>⟨h.1,h.2▸Ao _ _⟩)))|(go_at_call 37;exact Bf ((BM _ _ _ _).mono (λe w' h=>⟨h.1,h.2▸Ao _ _⟩))))))
  refine wpQuiet_nil ?_;rintro w2 ⟨u,hu⟩;have hw2:Below (wr.1.size+1) (wr.alloc (.cells (vT (x (k))) 89)) w2:=by have h9:=hu▸u.prop;simpa using h9
  clear hu u;go_wp2;go_ret;exact⟨Ay HE.symm,(hBw.alloc hBw.size _).trans (hw2.mono Za)⟩):P:=h
theorem T7 (now floor:Int)(n:Nat)(x:Nat->Ti)(a1 a2 a3:OA)(n1 c1 n2 c2 c3:Nat)(w:World)(lo hi:Nat)(hhi:hi<=w.1.size)(hl:(n:Int)<=1099511627776)(hf:∀i,i<n->UF (x i))(hc:DZ w lo hi a3 n x):Calls prog 40 #[.agg #[.i now,.i floor,.l a1 n1 c1,.l a2 n2 c2,.l a3 n c3]] w λe w'=>e=.returned (.bool (OE n x now))/\Below w.1.size w w':=by
 by_cases h50:(50:Int)<n;.have HE:=Ah (show OE n x now=false by unfold OE;rw[decide_eq_false Za];rfl);go_enter func40,ntmps40;go_wp2;go_ret;exact⟨Ay HE.symm,Am _ _⟩
 go_enter func40,ntmps40;go_wp2;go_loopw[3](λi wr=>∃k:Nat,k<=n/\i=.i k/\(∀j,j<k->Po x now j=true)/\Below (w.1.size+1) (w.alloc (.cells #[.i now,.i floor,.l a1 n1 c1,.l a2 n2 c2,.l a3 n c3] 27)) wr)(λi _=>n-(intOf i).toNat);case atStart=>exact⟨0,At _,rfl,λj hj=>absurd hj (Aj _),Ao _ _⟩
 case round=>
  obtain⟨k,hk,rfl,hall,hb⟩:=hrel;have hBw:Below w.1.size w wr:=(Am _ _).trans (hb.mono Za);have hsz:w.1.size+1<=wr.1.size:=by have:=hb.size;simpa using this
  have e0:wr.cell? ⟨w.1.size,0,none⟩=some (.i now):=(hb.cell (p:=⟨w.1.size,0,none⟩) Zg).trans Zc;have e4:wr.cell? ⟨w.1.size,4,none⟩=some (.slice a3 n c3):=(hb.cell (p:=⟨w.1.size,4,none⟩) Zg).trans Zc;by_cases hkn:k<n
  .obtain⟨b,off,rfl,hlo,hbh,hcx⟩:=hc k hkn;have hfc:=(hf k hkn).c;have hfp:=(hf k hkn).p;obtain⟨d0,d1,d2,d3,d4⟩:=hcx.below hBw Za;have hbw:b<wr.1.size:=Za;have hzw:w.1.size<wr.1.size:=Za;have HA:=Ah hall;have hne:Nonempty (GW (wr.alloc (.cells (vT (x k)) 89))):=⟨⟨_,Ao _ _⟩⟩;have z0:=Ai (W1:=wr.alloc (.cells (vT (x k)) 89)) (p:=⟨w.1.size,0,none⟩) ((Ap _ _ _ hzw).trans e0) Zd;have z4:=Ai (W1:=wr.alloc (.cells (vT (x k)) 89)) (p:=⟨w.1.size,4,none⟩) ((Ap _ _ _ hzw).trans e4) Zd;have x0:=Ai (W1:=wr.alloc (.cells (vT (x k)) 89)) (p:=⟨wr.1.size,0,none⟩) (v:=.s (x k).client) Zc Zc;have x1:=Ai (W1:=wr.alloc (.cells (vT (x k)) 89)) (p:=⟨wr.1.size,1,none⟩) (v:=.i (x k).num) Zc Zc;have x2:=Ai (W1:=wr.alloc (.cells (vT (x k)) 89)) (p:=⟨wr.1.size,2,none⟩) (v:=.s (x k).print) Zc Zc;have x3:=Ai (W1:=wr.alloc (.cells (vT (x k)) 89)) (p:=⟨wr.1.size,3,none⟩) (v:=.i (x k).code) Zc Zc;have x4:=Ai (W1:=wr.alloc (.cells (vT (x k)) 89)) (p:=⟨wr.1.size,4,none⟩) (v:=.i (x k).ver) Zc Zc;clear hall hcx;have hd9:=d0;go_wp2;clear d0 d1 d2 d3 d4 e0 e4;cases hn:Bv (x k).client with
   |false=>clear hc hf;have HE:=Ah (show OE n x now=false by unfold OE;rw[AX (p:=Po x now) hkn (by simp[Po,Nu,hn])];simp);exact Rz
   |true=>
    rcases Bm k with hk0|hpos
    .clear hc hf;have hg:decide ((0:Int)<(k:Int))=false:=decide_eq_false Za;have hg2:decide (0<k)=false:=decide_eq_false Za;have hkb:(k==0)=true:=by simp[hk0]
     clear hk0;cases h1:EG (x (k)).num 1 1000000 with
     |false=>have HE:=Ah (show OE n x now=false by unfold OE;rw[AX (p:=Po x now) hkn (by simp[Po,Nu,hn,hkb,h1])];simp);exact Rz
     |true=>
     by_cases hp:(x (k)).print.size=8;case neg=>have hpz:(((x (k)).print.size:Int)==8)=false:=Zd;have hpn:(((x (k)).print.size:Int) !=8)=true:=Zd;have HE:=Ah (show OE n x now=false by unfold OE;rw[AX (p:=Po x now) hkn (by simp[Po,Nu,hn,hkb,h1,hp])];simp);exact Rz
     have hpz:(((x (k)).print.size:Int)==8)=true:=Zd;have hpn:(((x (k)).print.size:Int) !=8)=false:=Zd;have uY:=Ah hp;clear hp;cases h2:EG (x (k)).code 0 9 with
     |false=>have HE:=Ah (show OE n x now=false by unfold OE;rw[AX (p:=Po x now) hkn (by simp[Po,Nu,hn,hkb,h1,h2])];simp);exact Rz
     |true=>cases h3:EG (x (k)).ver 0 now with
     |false=>have HE:=Ah (show OE n x now=false by unfold OE;rw[AX (p:=Po x now) hkn (by simp[Po,Nu,hn,hkb,h1,h2,h3])];simp);exact Rz
     |true=>
      have HN:=Ah (show Po x now (k)=true by simp[Po,Nu,hn,hkb,h1,h2,h3,uY.out]);refine AE Ze Ze ?_;repeat(go_big_quiet_step((first|(go_at_call 67;exact Bf ((AV _ _ hfc).mono (λe w' h=>⟨h.1,h.2▸Ao _ _⟩)))|(go_at_call 37;exact Bf ((BM _ _ _ _).mono (λe w' h=>⟨h.1,h.2▸Ao _ _⟩))))))
      refine wpQuiet_nil ?_;rintro w2 ⟨u,hu⟩;have hw2:Below (wr.1.size+1) (wr.alloc (.cells (vT (x (k))) 89)) w2:=by have h9:=hu▸u.prop;simpa using h9
      clear hu u;go_wp2;go_roundw;case rel=>exact⟨k+1,Za,by go_num,λj hj=>(by
       rcases Au j (k)with h3|h3;.exact HA j h3
       .have:j=k:=Za;subst this;exact HN),(hb.alloc hsz _).trans (hw2.mono Za)⟩
      case measure=>simp[intOf];omega
    .obtain⟨m,rfl⟩:∃m,k=m+1:=⟨k-1,Za⟩;obtain⟨b',off',e,_,_,hcy⟩:=hc m Za;cases e;have y0:=Ai (W1:=wr.alloc (.cells (vT (x (m+1))) 89)) (p:=⟨b,off+m*5,none⟩) ((Ap _ _ _ hbw).trans (hcy.below hBw Za).c0) Zd;have hg:decide ((0:Int)<((m+1:Nat):Int))=true:=decide_eq_true Za;clear hc hf hcy;cases hlt:KW (x m).client (x (m+1)).client with
     |false=>have hlt':Op.bytesLess (x m).client.toList (x (m+1)).client.toList=false:=hlt;have HE:=Ah (show OE n x now=false by unfold OE;rw[AX (p:=Po x now) hkn (by simp[Po,Nu,hlt])];simp);exact Ro
     |true=>have hlt':Op.bytesLess (x m).client.toList (x (m+1)).client.toList=true:=hlt;cases h1:EG (x (m+1)).num 1 1000000 with
     |false=>have HE:=Ah (show OE n x now=false by unfold OE;rw[AX (p:=Po x now) hkn (by simp[Po,Nu,hn,hlt,h1])];simp);exact Ro
     |true=>
     by_cases hp:(x (m+1)).print.size=8;case neg=>have hpz:(((x (m+1)).print.size:Int)==8)=false:=Zd;have hpn:(((x (m+1)).print.size:Int) !=8)=true:=Zd;have HE:=Ah (show OE n x now=false by unfold OE;rw[AX (p:=Po x now) hkn (by simp[Po,Nu,hn,hlt,h1,hp])];simp);exact Ro
     have hpz:(((x (m+1)).print.size:Int)==8)=true:=Zd;have hpn:(((x (m+1)).print.size:Int) !=8)=false:=Zd;have uY:=Ah hp;clear hp;cases h2:EG (x (m+1)).code 0 9 with
     |false=>have HE:=Ah (show OE n x now=false by unfold OE;rw[AX (p:=Po x now) hkn (by simp[Po,Nu,hn,hlt,h1,h2])];simp);exact Ro
     |true=>cases h3:EG (x (m+1)).ver 0 now with
     |false=>have HE:=Ah (show OE n x now=false by unfold OE;rw[AX (p:=Po x now) hkn (by simp[Po,Nu,hn,hlt,h1,h2,h3])];simp);exact Ro
     |true=>
      have HN:=Ah (show Po x now (m+1)=true by simp[Po,Nu,hn,hlt,h1,h2,h3,uY.out]);refine AE Ze Ze ?_;repeat(go_big_quiet_step((first|(go_at_call 67;exact Bf ((AV _ _ hfc).mono (λe w' h=>⟨h.1,h.2▸Ao _ _⟩)))|(go_at_call 37;exact Bf ((BM _ _ _ _).mono (λe w' h=>⟨h.1,h.2▸Ao _ _⟩))))))
      refine wpQuiet_nil ?_;rintro w2 ⟨u,hu⟩;have hw2:Below (wr.1.size+1) (wr.alloc (.cells (vT (x (m+1))) 89)) w2:=by have h9:=hu▸u.prop;simpa using h9
      clear hu u;go_wp2;go_roundw;case rel=>exact⟨m+1+1,Za,by go_num,λj hj=>(by
       rcases Au j (m+1)with h3|h3;.exact HA j h3
       .have:j=m+1:=Za;subst this;exact HN),(hb.alloc hsz _).trans (hw2.mono Za)⟩
      case measure=>simp[intOf];omega
  .have HE:=Ah (show OE n x now=true by unfold OE;rw[decide_eq_true (show n<=50 by omega),AP.2 (λi hi=>hall i Za)];rfl);clear hc hf hall;go_wp2;go_ret;exact⟨Ay HE.symm,hBw⟩
def lQ (gn en:Bool)(hn:Nat)(bo ve:Int):Bool:=if gn then en&&(decide (hn=0)&&!decide (bo=ve))else(!en||decide (0<hn))
def Lv (now floor:Int)(h:Nat->Ch)(i:Nat):Bool:=decide ((h i).ver=floor+1+i)&&(K9 (h i) now&&LO floor h i)
def Ee (now floor:Int)(m:Nat)(x:Nat->Ob)(n:Nat)(h:Nat->Ch):Bool:=decide (n<=200)&&(decide ((n:Int)=now-floor)&&(Bc (Lv now floor h) n&&Qs floor m x n h))
theorem U4{x:Ob}{now:Int}(h:Bg x now=true):x.born<=x.ver:=by unfold Bg EG at h;simp at h;omega
theorem mC (ve:Int)(gn:Bool)(ki na:ByteArray)(bo:Int)(te:ByteArray)(en:Bool)(hn:Nat)(hs:Nat->ByteArray)(now:Int)(hp:Bg ⟨ki,na,ve,bo,te,en,hn,hs⟩ now=true):K9 ⟨ve,gn,⟨ki,na,ve,bo,te,en,hn,hs⟩⟩ now=lQ gn en hn bo ve:=by have h1:=U4 hp;dsimp only at h1;unfold K9 lQ;simp only[hp];cases gn with
 |false=>simp[CW]
 |true=>
  have h2:decide (bo<ve)=!decide (bo=ve):=by
   by_cases h:bo=ve;.rw[decide_eq_true h,decide_eq_false Za];rfl
   .rw[decide_eq_false h,decide_eq_true Za];rfl
  simp[NA,h2]
theorem iC (n:Nat)(s:Nat->ByteArray)(m:Nat)(t:Nat->ByteArray):VD n s m t=VD m t n s:=by
 unfold VD;by_cases h:n=m;.subst h;rw[show(λi=>decide (s i=t i))=λi=>decide (t i=s i)from funext λi=>by rw[decide_eq_decide];exact⟨Eq.symm,Eq.symm⟩]
 .rw[decide_eq_false h,decide_eq_false (λe=>h e.symm)];rfl
theorem M5{α:Type}[DecidableEq α](a b:α):decide (a=b)=decide (b=a):=by rw[decide_eq_decide];exact⟨Eq.symm,Eq.symm⟩
theorem WN (x z:Ob):BR x z=BR z x:=by unfold BR;rw[M5 x.kind,M5 x.name,M5 x.ver,M5 x.born,M5 x.text,M5 x.ending,iC]
theorem fJ{P:Prop}(h:P:=by
  refine AE Ze Ze ?_;repeat(go_big_quiet_step((go_at_call 64;go_must(exact Bf (hK _)))))
  refine wpQuiet_nil ?_;rintro w4 ⟨u,hu⟩;have hw4:Below w3.1.size w3 w4:=hu▸u.prop;clear hu u hne;have hB4:=hB3.trans (hw4.mono Za);clear x0 x1 x2 x3 x4 x5 x6 x7 x8 xr3 xv3 y5 y1 hK;go_wp2;go_ret;exact⟨Ay HE.symm,(Am _ _).trans (hB4.mono Za)⟩):P:=h
theorem WH{P:Prop}(h:P:=by
  go_wp2;go_roundw;case rel=>exact⟨k+1,Za,by go_num,λj hj=>(by
   rcases Au j k with h3|h3;.exact HA j h3
   .have:j=k:=Za;subst this;exact HN),hB4⟩
  case measure=>simp[intOf];omega):P:=h
theorem bE{P:Prop}(h:P:=by
  refine AE Ze Ze ?_;repeat(go_big_quiet_step((go_at_call 65;go_must(exact Bf (hSU _)))))
  refine wpQuiet_nil ?_;rintro w2 ⟨u,hu⟩;have hw2:Below w1.1.size w1 w2:=hu▸u.prop;clear hu u hne;have hB2:=hB1.trans (hw2.mono Za);clear u1 u2 u3 v1 hSU xx0 xx1 xx2 xx3 xx4 xx5 xx6 y2 y3 y4 y5 y6 y7 y8;go_wp2;go_ret;exact⟨Ay HE.symm,(Am _ _).trans (hB2.mono Za)⟩):P:=h
theorem aF{P:Prop}(h:P:=by
  refine AE Ze Ze ?_;repeat(go_big_quiet_step((go_at_call 64;go_must(exact Bf (hK _)))))
  refine wpQuiet_nil ?_;rintro w4 ⟨u,hu⟩;have hw4:Below w3.1.size w3 w4:=hu▸u.prop;clear hu u hne;have hB4:=hB3.trans (hw4.mono Za);clear x0 x1 x2 x3 x4 x5 x6 x7 x8 xr3 xv3 y5 y1 hK;exact WH):P:=h
theorem aX{P:Prop}(h:P:=by rw[hg]at f1;have y1:=Ai f1 Zk;have HE:=Ah (show Ee now floor m x n h=false by unfold Ee;rw[AX (p:=Lv now floor h) hkn (by unfold Lv;rw[m7.out];simp[LN,hcr,hg])];simp);clear hcr hg f1;exact fJ):P:=h
theorem iR{P:Prop}(h:P:=by
  go_wp2;go_roundw;case rel=>exact⟨k+1,Za,by go_num,hB2,λj hj=>(by
   rcases Au j k with h3|h3;.exact HA j h3
   .have:j=k:=Za;subst this;exact HN)⟩
  case measure=>simp[intOf];omega):P:=h
theorem Ty (now floor:Int)(m n:Nat)(x:Nat->Ob)(h:Nat->Ch)(a1 a2 a3:OA)(c1 c2 n3 c3:Nat)(w:World)(lo hi:Nat)(hhi:hi<=w.1.size)(hm:(m:Int)<=1099511627776)(hl:(n:Int)<=1099511627776)(hfl:0<=floor)(hno:floor<=now)(hnm:now<=1000000)(hx:∀i,i<m->Ef (x i))(hf:∀i,i<n->Ef (h i).ob)(hco:B4 w lo hi a1 m x)(hc:CO w lo hi a2 n h):Calls prog 39 #[.agg #[.i now,.i floor,.l a1 m c1,.l a2 n c2,.l a3 n3 c3]] w λe w'=>e=.returned (.bool (Ee now floor m x n h))/\Below w.1.size w w':=by
 by_cases h200:(200:Int)<n;.have HE:=Ah (show Ee now floor m x n h=false by unfold Ee;rw[decide_eq_false Za];rfl);go_enter func39,ntmps39;go_wp2;go_ret;exact⟨Ay HE.symm,Am _ _⟩
 by_cases hnf:(n:Int)=now-floor;case neg=>have HE:=Ah (show Ee now floor m x n h=false by unfold Ee;rw[decide_eq_false hnf];simp);go_enter func39,ntmps39;go_wp2;go_ret;exact⟨Ay HE.symm,Am _ _⟩
 have vH:=Ah hnf;have hnf2:now-floor=(n:Int):=Za;clear hnf;go_enter func39,ntmps39;go_wp2;clear hnf2;go_loopw[3](λi wr=>∃k:Nat,k<=n/\i=.i k/\(∀j,j<k->Lv now floor h j=true)/\Below (w.1.size+1) (w.alloc (.cells #[.i now,.i floor,.l a1 m c1,.l a2 n c2,.l a3 n3 c3] 27)) wr)(λi _=>n-(intOf i).toNat);case atStart=>exact⟨0,At _,rfl,λj hj=>absurd hj (Aj _),Ao _ _⟩
 case round=>
  obtain⟨k,hk,rfl,hall,hb⟩:=hrel;have hBw:Below w.1.size w wr:=(Am _ _).trans (hb.mono Za);have hsz:w.1.size+1<=wr.1.size:=by have:=hb.size;simpa using this
  have hwz:w.1.size<wr.1.size:=Za;have o0:=Ar Zq 0;have o1:=Ar Zq 1;have o2:=Ar Zq 2;have o3:=Ar Zq 3;simp only[Af,Ae,Ad]at o0 o1 o2 o3;by_cases hkn:k<n
  .obtain⟨b,off,ah,ch,rfl,hlo,hbh,hcx,hsx⟩:=hc k hkn;have hfk:=hf k hkn;have hcx:=hcx.below hBw Za;have hs1:=hsx.below hBw hhi;have HA:=Ah hall;have HF:=Ah hf;have xX:=Ah hco;have HX:=Ah hx;have SA:=Ah hc;obtain⟨c,hce⟩:∃c,h k=c:=⟨_,rfl⟩;rw[hce]at hcx hfk hs1;have i4:=Ah hce;obtain⟨ve,gn,ki,na,ov,bo,te,en,hn,hs⟩:=c;obtain⟨d0,d1,d2,d3,d4,d5,d6,d7,d8⟩:=hcx;dsimp only at d0 d1 d2 d3 d4 d5 d6 d7 d8 hs1 hfk;clear hall hc hf hsx hco hx hce;have hkz:(k:Int)+1<=n:=Za;by_cases hv:ve=floor+1+k;case neg=>have HE:=Ah (show Ee now floor m x n h=false by unfold Ee;rw[AX (p:=Lv now floor h) hkn (by unfold Lv;rw[i4.out,decide_eq_false hv];rfl)];simp);go_wp2;go_ret;exact⟨Ay HE.symm,(hBw.alloc hBw.size _).alloc Zd _⟩
   subst hv;by_cases hov:ov=floor+1+k;case neg=>have HE:=Ah (show Ee now floor m x n h=false by unfold Ee;rw[AX (p:=Lv now floor h) hkn (by unfold Lv K9;rw[i4.out];simp[hov])];simp);go_wp2;go_ret;exact⟨Ay HE.symm,(hBw.alloc hBw.size _).alloc Zd _⟩
   subst hov;have hC:=SE ⟨ki,na,floor+1+k,bo,te,en,hn,hs⟩ now ah ch ((wr.alloc (.cells #[.i (floor+1+k),.bool gn,.s ki,.s na,.i (floor+1+k),.i bo,.s te,.bool en,.l ah hn ch] 40)).alloc (.cells #[.s ki,.s na,.i (floor+1+k),.i bo,.s te,.bool en,.l ah hn ch] 38)) lo hi Zd hfk ((hs1.alloc Za _).alloc Zd _);dsimp only[vO]at hC;cases hp:Bg ⟨ki,na,floor+1+k,bo,te,en,hn,hs⟩ now with
   |false=>have HE:=Ah (show Ee now floor m x n h=false by unfold Ee;rw[AX (p:=Lv now floor h) hkn (by unfold Lv K9;rw[i4.out];simp[hp])];simp);go_wp2_with fail;refine hC.mono ?_;rintro e w2 ⟨rfl,hb2⟩;rw[hp];clear hC;go_wp2;go_ret;exact⟨Ay HE.symm,((hBw.alloc hBw.size _).alloc Zd _).trans (hb2.mono Zd)⟩
   |true=>
   have xR:=Ah (mC (floor+1+k) gn ki na bo te en hn hs now hp);have hnn:(hn:Int)<=140737488355328:=by have:=hfk.h;simpa using(by dsimp only at this;omega)
   go_upto_region 10 with(go_at_call 61;refine hC.mono ?_;rintro e w2 ⟨rfl,hb2⟩;rw[hp];clear hC);have hB2:Below (w.1.size+1) (w.alloc (.cells #[.i now,.i floor,.l a1 m c1,.l (some ⟨b,off,none⟩) n c2,.l a3 n3 c3] 27)) w2:=((hb.alloc hsz _).alloc Zd _).trans (hb2.mono Zd);have hz2:wr.1.size+2<=w2.1.size:=by have:=hb2.size;simp at this;omega
   have s0:=AS hb2 0;have s1:=AS hb2 1;have s2:=AS hb2 2;have s3:=AS hb2 3;have s4:=AS hb2 4;have s5:=AS hb2 5;have s6:=AS hb2 6;have s7:=AS hb2 7;have s8:=AS hb2 8;have t0:=Ar hb2 0;have t1:=Ar hb2 1;have t2:=Ar hb2 2;have t3:=Ar hb2 3;have t4:=Ar hb2 4;have t5:=Ar hb2 5;have t6:=Ar hb2 6;simp only[Af,Ae,Ad,Aw]at s0 s1 s2 s3 s4 s5 s6 s7 s8 t0 t1 t2 t3 t4 t5 t6;have o0:=Ar (by simpa using hB2) 0;have o1:=Ar (by simpa using hB2) 1;have o2:=Ar (by simpa using hB2) 2;have o3:=Ar (by simpa using hB2) 3;simp only[Af,Ae,Ad]at o0 o1 o2 o3;clear hb2 d0 d1 d2 d3 d4 d5 d6 d7 d8 hp;go_cut[98]from 28 to 141 (λs98 wx=>s98=.bool (!lQ gn en hn bo (floor+1+k))/\w2=wx);case first=>cases gn with
    |true=>cases en with
     |false=>go_wp2_with fail;go_meet;exact⟨rfl,rfl⟩
     |true=>
      by_cases h0:hn=0
      .subst h0;by_cases h1:bo=floor+1+k
       .subst h1;go_wp2_with fail;go_meet;exact⟨congrArg Value.bool (by simp[lQ]),rfl⟩
       .have h1b:(bo==floor+1+k)=false:=by simp[h1]
        have HH:=Ah h1;clear h1;go_wp2_with fail;go_meet;exact⟨congrArg Value.bool (by simp[lQ,HH.out]),rfl⟩
      .have h2:decide ((0:Int)<(hn:Int))=true:=decide_eq_true Za;have h3:(0:Int)<hn:=Za;have HH:=Ah h0;clear h0;go_wp2_with fail;go_meet;exact⟨congrArg Value.bool (by simp[lQ,HH.out]),rfl⟩
    |false=>cases en with
     |false=>go_wp2_with fail;go_meet;exact⟨rfl,rfl⟩
     |true=>
      by_cases h0:hn=0;.subst h0;go_wp2_with fail;go_meet;exact⟨congrArg Value.bool (by simp[lQ]),rfl⟩
      .have h2:((hn:Int)==0)=false:=Zd;have HH:=Ah h0;clear h0;go_wp2_with fail;go_meet;exact⟨congrArg Value.bool (by have:=HH.out;simp[lQ];omega),rfl⟩
   case rest=>obtain⟨rfl,rfl⟩:=hcut;cases hgb:lQ gn en hn bo (floor+1+k)with
   |false=>have HE:=Ah (show Ee now floor m x n h=false by unfold Ee;rw[AX (p:=Lv now floor h) hkn (by unfold Lv;rw[i4.out,xR.out,hgb];simp)];simp);go_wp2;go_ret;exact⟨Ay HE.symm,(Am _ _).trans (hB2.mono Za)⟩
   |true=>have HG:=Ah (xR.trans hgb);clear hgb;have hBW2:Below w.1.size w w2:=(Am _ _).trans (hB2.mono Za);have hL:=Oy n k h ⟨ki,na,floor+1+k,bo,te,en,hn,hs⟩ (some ⟨b,off,none⟩) ah c2 ch w2 lo hi Za hl Za (SA.below hBW2 hhi);dsimp only[vO]at hL;have hK:=λw=>UC ⟨floor+1+k,gn,⟨ki,na,floor+1+k,bo,te,en,hn,hs⟩⟩ ah ch w;dsimp only at hK;cases hfd:L6 h ki na k with
   |none=>
    have SB:LZ h ⟨ki,na,floor+1+k,bo,te,en,hn,hs⟩ k=-1:=by unfold LZ;dsimp only;rw[hfd]
    have m7:=Ah (show LO floor h k=Mh ⟨floor+1+k,gn,⟨ki,na,floor+1+k,bo,te,en,hn,hs⟩⟩ floor by unfold LO;rw[i4.out];dsimp only;rw[hfd]);rw[SB]at hL;clear SB hfd;go_wp2_with fail;refine hL.mono ?_;rintro e w3 ⟨rfl,hb3⟩;clear hL;have q0:=(hb3.cell (p:=⟨wr.1.size,0,none⟩) Zj).trans s0;have q1:=(hb3.cell (p:=⟨wr.1.size,1,none⟩) Zj).trans s1;have q2:=(hb3.cell (p:=⟨wr.1.size,2,none⟩) Zj).trans s2;have q3:=(hb3.cell (p:=⟨wr.1.size,3,none⟩) Zj).trans s3;have q4:=(hb3.cell (p:=⟨wr.1.size,4,none⟩) Zj).trans s4;have q5:=(hb3.cell (p:=⟨wr.1.size,5,none⟩) Zj).trans s5;have q6:=(hb3.cell (p:=⟨wr.1.size,6,none⟩) Zj).trans s6;have q7:=(hb3.cell (p:=⟨wr.1.size,7,none⟩) Zj).trans s7;have q8:=(hb3.cell (p:=⟨wr.1.size,8,none⟩) Zj).trans s8;have r3:=(hb3.cell (p:=⟨wr.1.size+1,3,none⟩) (by show wr.1.size+1<_;omega)).trans t3;have v1:=(hb3.cell (p:=⟨w.1.size,1,none⟩) Zg).trans o1;have hz3:wr.1.size+2<=w3.1.size:=by have:=hb3.size;omega
    have hB3:=hB2.trans (hb3.mono Za);clear s0 s1 s2 s3 s4 s5 s6 s7 s8 t0 t1 t2 t3 t4 t5 t6 o0 o1 o2 o3 hb3;go_wp2_with fail;refine(hK _).mono ?_;rintro e w4 ⟨rfl,hb4⟩;clear hK;have g3:=(hb4.cell (p:=⟨wr.1.size+1,3,none⟩) (by show wr.1.size+1<_;omega)).trans r3;have f1:=(hb4.cell (p:=⟨w.1.size,1,none⟩) Zg).trans v1;have hB4:=hB3.trans (hb4.mono Za);clear q0 q1 q2 q3 q4 q5 q6 q7 q8 r3 v1 hb4;cases hcr:Og ⟨floor+1+k,gn,⟨ki,na,floor+1+k,bo,te,en,hn,hs⟩⟩with
    |true=>have HN:=Ah (show Lv now floor h k=true by unfold Lv;rw[m7.out,i4.out,HG.out];simp[Mh,hcr]);exact WH
    |false=>
     by_cases hbf:floor<bo;.have HE:=Ah (show Ee now floor m x n h=false by unfold Ee;rw[AX (p:=Lv now floor h) hkn (by unfold Lv;rw[m7.out];have:¬bo<=floor:=Za;simp[Mh,hcr,this])];simp);go_wp2;go_ret;exact⟨Ay HE.symm,(Am _ _).trans (hB4.mono Za)⟩
     .have HN:=Ah (show Lv now floor h k=true by unfold Lv;rw[m7.out,i4.out,HG.out];have:bo<=floor:=Za;simp[Mh,this]);exact WH
   |some i=>
    have hin:=(Mn hfd).1;have SB:LZ h ⟨ki,na,floor+1+k,bo,te,en,hn,hs⟩ k=i:=by unfold LZ;dsimp only;rw[hfd]
    have m7:=Ah (show LO floor h k=LN (h i) ⟨floor+1+k,gn,⟨ki,na,floor+1+k,bo,te,en,hn,hs⟩⟩by unfold LO;rw[i4.out];dsimp only;rw[hfd]);rw[SB]at hL;clear SB hfd;obtain⟨b',off',ah',ch',e,hlo',hbh',hcy,hsy⟩:=SA i Za;cases e;have hiz:(i:Int)+1<=n:=Za;have hi0:decide ((i:Int)<0)=false:=decide_eq_false Za;go_wp2_with fail;refine hL.mono ?_;rintro e w3 ⟨rfl,hb3⟩;clear hL;have hz3:wr.1.size+2<=w3.1.size:=by have:=hb3.size;omega
    have q0:=(hb3.cell (p:=⟨wr.1.size,0,none⟩) Zj).trans s0;have q1:=(hb3.cell (p:=⟨wr.1.size,1,none⟩) Zj).trans s1;have q2:=(hb3.cell (p:=⟨wr.1.size,2,none⟩) Zj).trans s2;have q3:=(hb3.cell (p:=⟨wr.1.size,3,none⟩) Zj).trans s3;have q4:=(hb3.cell (p:=⟨wr.1.size,4,none⟩) Zj).trans s4;have q5:=(hb3.cell (p:=⟨wr.1.size,5,none⟩) Zj).trans s5;have q6:=(hb3.cell (p:=⟨wr.1.size,6,none⟩) Zj).trans s6;have q7:=(hb3.cell (p:=⟨wr.1.size,7,none⟩) Zj).trans s7;have q8:=(hb3.cell (p:=⟨wr.1.size,8,none⟩) Zj).trans s8;have r3:=(hb3.cell (p:=⟨wr.1.size+1,3,none⟩) (by show wr.1.size+1<_;omega)).trans t3;have v3:=(hb3.cell (p:=⟨w.1.size,3,none⟩) Zg).trans o3;have hB3:=hB2.trans (hb3.mono Za);have hBw3:Below w.1.size w w3:=(Am _ _).trans (hB3.mono Za);obtain⟨f0,f1,f2,f3,f4,f5,f6,f7,f8⟩:=hcy.below hBw3 Za;clear s0 s1 s2 s3 s4 s5 s6 s7 s8 t0 t1 t2 t3 t4 t5 t6 o0 o1 o2 o3 hb3 hcy hsy;go_wp2;have x0:=Ai q0 Zj;have x1:=Ai q1 Zj;have x2:=Ai q2 Zj;have x3:=Ai q3 Zj;have x4:=Ai q4 Zj;have x5:=Ai q5 Zj;have x6:=Ai q6 Zj;have x7:=Ai q7 Zj;have x8:=Ai q8 Zj;have xr3:=Ai r3 (by show wr.1.size+1<_;omega);have xv3:=Ai v3 Zg;have y5:=Ai f5 Zk;have hne:Nonempty (GW w3):=⟨⟨_,Ao _ _⟩⟩;obtain⟨pv,hpb⟩:∃pv,(h i).ob.born=pv:=⟨_,rfl⟩;rw[hpb]at y5;have qY:=Ah hpb;clear hpb;clear q0 q1 q2 q3 q4 q5 q6 q7 q8 r3 v3 f0 f2 f3 f4 f5 f6 f7 f8;cases hcr:Og ⟨floor+1+k,gn,⟨ki,na,floor+1+k,bo,te,en,hn,hs⟩⟩with
    |true=>rw[hcr]at hK;cases hg:(h i).gone with
     |true=>rw[hg]at f1;have y1:=Ai f1 Zk;have HN:=Ah (show Lv now floor h k=true by unfold Lv;rw[m7.out,i4.out,HG.out];simp[LN,hcr,hg]);clear hcr hg f1;exact aF
     |false=>exact aX
    |false=>rw[hcr]at hK;cases hg:(h i).gone with
     |true=>exact aX
     |false=>
      rw[hg]at f1;have y1:=Ai f1 Zk;by_cases hq:pv=bo
      .have hqb:(bo !=pv)=false:=by simp[hq]
       have HN:=Ah (show Lv now floor h k=true by unfold Lv;rw[m7.out,i4.out,HG.out];simp[LN,hcr,hg,qY.out,hq]);clear hcr hg f1 hq;exact aF
      .have hqb:(bo !=pv)=true:=by simp;exact λe=>hq e.symm
       have HE:=Ah (show Ee now floor m x n h=false by unfold Ee;rw[AX (p:=Lv now floor h) hkn (by unfold Lv;rw[m7.out];simp[LN,hcr,hg,qY.out,hq])];simp);clear hcr hg f1 hq;exact fJ
  .have:n=k:=Za;subst this;have m6:=Ah (show Bc (Lv now floor h) n=true from AP.2 hall);clear hall;go_wp2;clear o0 o1 o2 o3;obtain⟨W,hW⟩:∃W,W=wr:=⟨wr,rfl⟩;subst hW;go_loopw[7](λi wq=>∃k:Nat,k<=m/\i=.i k/\Below (w.1.size+1) (w.alloc (.cells #[.i now,.i floor,.l a1 m c1,.l a2 n c2,.l a3 n3 c3] 27)) wq/\∀j,j<k->agO floor x n h j=true)(λi _=>m-(intOf i).toNat);case atStart=>exact⟨0,At _,rfl,hb,λj hj=>absurd hj (Aj _)⟩
   case round=>
    obtain⟨k,hk2,rfl,hb,hall⟩:=hrel;have hBw:Below w.1.size w wr:=(Am _ _).trans (hb.mono Za);have hsz:w.1.size+1<=wr.1.size:=by have:=hb.size;simpa using this
    have hwz:w.1.size<wr.1.size:=Za;have hhw:hi<=wr.1.size:=Za;have o0:=Ar Zq 0;have o1:=Ar Zq 1;have o2:=Ar Zq 2;have o3:=Ar Zq 3;have o4:=Ar Zq 4;simp only[Af,Ae,Ad]at o0 o1 o2 o3 o4;by_cases hkm:k<m
    .obtain⟨b,off,ah,ch,rfl,hlo,hbh,hcx,hsx⟩:=hco k hkm;have hxk:=hx k hkm;have hxh:((x k).hn:Int)<=140737488355328:=by have:=hxk.h;omega
     obtain⟨d0,d1,d2,d3,d4,d5,d6⟩:=hcx.below hBw Za;have HA:=Ah hall;have HC:=Ah hc;have HF:=Ah hf;have HS:=Ah hsx;have hcu:∀u:GW wr,CO u.val lo hi a2 n h:=λu=>hc.below (hBw.trans (u.prop.mono Za)) hhi;have hhu:∀u:GW wr,hi<=u.val.1.size:=λu=>AT hhw u.prop.size;have hLU:∀u:GW wr,Calls prog 63 #[.l a2 n c2,.agg (vO (x k) ah ch),.i n] u.val λe w'=>e=.returned (.i (LZ h (x k) n))/\Below u.val.1.size u.val w':=λu=>Oy n n h (x k) a2 ah c2 ch _ lo hi (hhu u) hl uK (hcu u);clear hall hc hf hco hx hcx hsx hcu hhu;have z2:=Ai o2 Zg;have z3:=Ai o3 Zg;have x0:=Ai d0 Zk;have x1:=Ai d1 Zk;have x2:=Ai d2 Zk;have x3:=Ai d3 Zk;have x4:=Ai d4 Zk;have x5:=Ai d5 Zk;have x6:=Ai d6 Zk;have hne:Nonempty (GW wr):=⟨⟨_,Ao _ _⟩⟩;go_wp2;cases hfd:L6 h (x k).kind (x k).name n with
     |none=>
      have SB:LZ h (x k) n=-1:=by unfold LZ;rw[hfd]
      have HL:=Ah (show agO floor x n h k=decide ((x k).ver<=floor)by unfold agO;rw[hfd]);simp only[SB]at hLU;clear SB hfd;refine AE Ze Ze ?_;repeat(go_big_quiet_step((go_at_call 63;go_must(exact Bf (hLU _)))))
      refine wpQuiet_nil ?_;rintro w1 ⟨u,hu⟩;have hw1:Below wr.1.size wr w1:=hu▸u.prop;clear hu u hne hLU z2 z3 x0 x1 x2 x3 x4 x5 x6;have hB1:=hb.trans (hw1.mono Za);have p1:=(hw1.cell (p:=⟨w.1.size,1,none⟩) Zg).trans o1;have p2:=(hw1.cell (p:=⟨w.1.size,2,none⟩) Zg).trans o2;have p3:=(hw1.cell (p:=⟨w.1.size,3,none⟩) Zg).trans o3;have e2:=(hw1.cell (p:=⟨b,off+k*7+2,none⟩) Zk).trans d2;have hz1:wr.1.size<=w1.1.size:=hw1.size;have u1:=Ai p1 Zg;have u2:=Ai p2 Zg;have u3:=Ai p3 Zg;have y2:=Ai e2 Zk;have hne:Nonempty (GW w1):=⟨⟨_,Ao _ _⟩⟩;clear d0 d1 d2 d3 d4 d5 d6 o0 o1 o2 o3 o4 p1 p2 p3 e2 hw1;go_wp2;by_cases hv:(x k).ver<=floor
      .have HN:=Ah (show agO floor x n h k=true by rw[HL.out];exact decide_eq_true hv);have hd:decide (floor<(x k).ver)=false:=decide_eq_false Za;refine AE Ze Ze ?_;repeat(go_big_quiet_step(fail))
       refine wpQuiet_nil ?_;rintro w2 ⟨u,hu⟩;have hw2:Below w1.1.size w1 w2:=hu▸u.prop;clear hu u hne;have hB2:=hB1.trans (hw2.mono Za);clear u1 u2 u3 y2;exact iR
      .have HE:=Ah (show Ee now floor m x n h=false by unfold Ee Qs;rw[AX (p:=agO floor x n h) hkm (HL.trans (decide_eq_false hv))];simp);have hd:decide (floor<(x k).ver)=true:=decide_eq_true Za;refine AE Ze Ze ?_;repeat(go_big_quiet_step(fail))
       refine wpQuiet_nil ?_;rintro w2 ⟨u,hu⟩;have hw2:Below w1.1.size w1 w2:=hu▸u.prop;clear hu u hne;have hB2:=hB1.trans (hw2.mono Za);clear u1 u2 u3 y2;go_wp2;go_ret;exact⟨Ay HE.symm,(Am _ _).trans (hB2.mono Za)⟩
     |some j=>
      have hjn:=(Mn hfd).1;have SB:LZ h (x k) n=j:=by unfold LZ;rw[hfd]
      have HL:=Ah (show agO floor x n h k=(!(h j).gone&&BR (h j).ob (x k))by unfold agO;rw[hfd,WN (h j).ob]);simp only[SB]at hLU;clear SB hfd;obtain⟨b',off',ah',ch',rfl,hlo',hbh',hcy,hsy⟩:=HC j hjn;have hjh:((h j).ob.hn:Int)<=140737488355328:=by have:=(HF j hjn).h;omega
      have i9:=Ah hsy;clear hsy;have hjz:(j:Int)+1<=n:=Za;have hj0:decide ((0:Int)<=(j:Int))=true:=decide_eq_true Za;have hj1:decide ((j:Int)<0)=false:=decide_eq_false Za;refine AE Ze Ze ?_;repeat(go_big_quiet_step((go_at_call 63;go_must(exact Bf (hLU _)))))
      refine wpQuiet_nil ?_;rintro w1 ⟨u,hu⟩;have hw1:Below wr.1.size wr w1:=hu▸u.prop;clear hu u hne hLU z2 z3 x0 x1 x2 x3 x4 x5 x6;have hB1:=hb.trans (hw1.mono Za);have hBw1:Below w.1.size w w1:=(Am _ _).trans (hB1.mono Za);have hz1:wr.1.size<=w1.1.size:=hw1.size;have p1:=(hw1.cell (p:=⟨w.1.size,1,none⟩) Zg).trans o1;have p2:=(hw1.cell (p:=⟨w.1.size,2,none⟩) Zg).trans o2;have p3:=(hw1.cell (p:=⟨w.1.size,3,none⟩) Zg).trans o3;have u1:=Ai p1 Zg;have u2:=Ai p2 Zg;have u3:=Ai p3 Zg;have e0:=(hw1.cell (p:=⟨b,off+k*7,none⟩) Zk).trans d0;have e1:=(hw1.cell (p:=⟨b,off+k*7+1,none⟩) Zk).trans d1;have e2:=(hw1.cell (p:=⟨b,off+k*7+2,none⟩) Zk).trans d2;have e3:=(hw1.cell (p:=⟨b,off+k*7+3,none⟩) Zk).trans d3;have e4:=(hw1.cell (p:=⟨b,off+k*7+4,none⟩) Zk).trans d4;have e5:=(hw1.cell (p:=⟨b,off+k*7+5,none⟩) Zk).trans d5;have e6:=(hw1.cell (p:=⟨b,off+k*7+6,none⟩) Zk).trans d6;have xx0:=Ai e0 Zk;have xx1:=Ai e1 Zk;have xx2:=Ai e2 Zk;have xx3:=Ai e3 Zk;have xx4:=Ai e4 Zk;have xx5:=Ai e5 Zk;have xx6:=Ai e6 Zk;obtain⟨f0,f1,f2,f3,f4,f5,f6,f7,f8⟩:=hcy.below hBw1 Za;have y2:=Ai f2 Zw;have y3:=Ai f3 Zw;have y4:=Ai f4 Zw;have y5:=Ai f5 Zw;have y6:=Ai f6 Zw;have y7:=Ai f7 Zw;have y8:=Ai f8 Zw;have hne:Nonempty (GW w1):=⟨⟨_,Ao _ _⟩⟩;have hhw1:hi<=w1.1.size:=Za;have hhu:∀u:GW w1,hi<=u.val.1.size:=λu=>AT hhw1 u.prop.size;have hu1:∀u:GW w1,AB u.val lo hi ah (x k).hn (x k).hs:=λu=>HS.below (hBw1.trans (u.prop.mono Za)) hhi;have hu2:∀u:GW w1,AB u.val lo hi ah' (h j).ob.hn (h j).ob.hs:=λu=>i9.below (hBw1.trans (u.prop.mono Za)) hhi;have hSU:∀u:GW w1,Calls prog 65 #[.agg (vO (h j).ob ah' ch'),.agg (vO (x k) ah ch)] u.val λe w'=>e=.returned (.bool (BR (h j).ob (x k)))/\Below u.val.1.size u.val w':=λu=>V5 (h j).ob (x k) ah' ah ch' ch _ lo hi (hhu u) hjh hxh (hu2 u) (hu1 u);clear d0 d1 d2 d3 d4 d5 d6 o0 o1 o2 o3 o4 p1 p2 p3 e0 e1 e2 e3 e4 e5 e6 hw1 hcy f0 f2 f3 f4 f5 f6 f7 f8 hhu hu1 hu2;go_wp2;cases hg:(h j).gone with
      |true=>have HE:=Ah (show Ee now floor m x n h=false by unfold Ee Qs;rw[AX (p:=agO floor x n h) hkm (HL.trans (by rw[hg];rfl))];simp);rw[hg]at f1;have v1:=Ai f1 Zw;clear hg f1;exact bE
      |false=>rw[hg]at f1;have v1:=Ai f1 Zw;have MV:=Ah (show agO floor x n h k=BR (h j).ob (x k)by rw[HL.out,hg];rfl);clear hg f1;cases hsm:BR (h j).ob (x k)with
       |false=>have HE:=Ah (show Ee now floor m x n h=false by unfold Ee Qs;rw[AX (p:=agO floor x n h) hkm (MV.trans hsm)];simp);simp only[hsm]at hSU;clear hsm;exact bE
       |true=>
        have HN:=Ah (MV.trans hsm);simp only[hsm]at hSU;clear hsm;refine AE Ze Ze ?_;repeat(go_big_quiet_step((go_at_call 65;go_must(exact Bf (hSU _)))))
        refine wpQuiet_nil ?_;rintro w2 ⟨u,hu⟩;have hw2:Below w1.1.size w1 w2:=hu▸u.prop;clear hu u hne;have hB2:=hB1.trans (hw2.mono Za);clear u1 u2 u3 v1 hSU xx0 xx1 xx2 xx3 xx4 xx5 xx6 y2 y3 y4 y5 y6 y7 y8;exact iR
    .have:m=k:=Za;subst this;have rU:=Ah (show Bc (agO floor x n h) m=true from AP.2 hall);clear hall;go_wp2;clear o0 o1 o2 o3 o4;obtain⟨V,hV⟩:∃V,V=wr:=⟨wr,rfl⟩;subst hV;go_loopw[9](λi wq=>∃k:Nat,k<=n/\i=.i k/\Below (w.1.size+1) (w.alloc (.cells #[.i now,.i floor,.l a1 m c1,.l a2 n c2,.l a3 n3 c3] 27)) wq/\∀j,j<k->agH m x n h j=true)(λi _=>n-(intOf i).toNat);case atStart=>exact⟨0,At _,rfl,hb,λj hj=>absurd hj (Aj _)⟩
     case round=>
      obtain⟨k,hk2,rfl,hb,hall⟩:=hrel;have hBw:Below w.1.size w wr:=(Am _ _).trans (hb.mono Za);have hsz:w.1.size+1<=wr.1.size:=by have:=hb.size;simpa using this
      have hwz:w.1.size<wr.1.size:=Za;have hhw:hi<=wr.1.size:=Za;have o0:=Ar Zq 0;have o1:=Ar Zq 1;have o2:=Ar Zq 2;have o3:=Ar Zq 3;have o4:=Ar Zq 4;simp only[Af,Ae,Ad]at o0 o1 o2 o3 o4;by_cases hkn2:k<n
      .obtain⟨b,off,ah,ch,rfl,hlo,hbh,hcx,hsx⟩:=hc k hkn2;obtain⟨d0,d1,d2,d3,d4,d5,d6,d7,d8⟩:=hcx.below hBw Za;obtain⟨i',hli⟩:=Ut (h:=h) hkn2;have SB:LZ h (h k).ob n=i':=by unfold LZ;rw[hli]
       have rC:=Ah hli;have hin:=(Mn hli).1;have hL:=Oy n n h (h k).ob (some ⟨b,off,none⟩) ah c2 ch (wr.alloc (.cells #[.i (h k).ver,.bool (h k).gone,.s (h k).ob.kind,.s (h k).ob.name,.i (h k).ob.ver,.i (h k).ob.born,.s (h k).ob.text,.bool (h k).ob.ending,.l ah (h k).ob.hn ch] 40)) lo hi Zd hl uK (hc.below (hBw.alloc hBw.size _) hhi);rw[SB]at hL;have HA:=Ah hall;have xX:=Ah hco;have HX:=Ah hx;clear SB hli hall hc hf hcx hsx hco hx;go_wp2_with fail;refine hL.mono ?_;rintro e w1 ⟨rfl,hb1⟩;clear hL;have hB1:Below (w.1.size+1) (w.alloc (.cells #[.i now,.i floor,.l a1 m c1,.l (some ⟨b,off,none⟩) n c2,.l a3 n3 c3] 27)) w1:=(hb.alloc hsz _).trans (hb1.mono Zd);have hBw1:Below w.1.size w w1:=(Am _ _).trans (hB1.mono Za);have hz1:wr.1.size+1<=w1.1.size:=by have:=hb1.size;simp at this;omega
       have p1:=Ar hb1 1;have p2:=Ar hb1 2;have p3:=Ar hb1 3;have o0:=Ar Yz 0;have o1:=Ar Yz 1;have o2:=Ar Yz 2;have o3:=Ar Yz 3;have o4:=Ar Yz 4;simp only[Af,Ae,Ad]at p1 p2 p3 o0 o1 o2 o3 o4;clear d0 d1 d2 d3 d4 d5 d6 d7 d8 hb1;by_cases hii:i'=k;case neg=>
        have HN:=Ah (show agH m x n h k=true by unfold agH;rw[rC.out];simp[hii]);have hd:((i':Int) !=(k:Int))=true:=Zd;have hd2:¬(i':Int)=(k:Int):=Za;clear hii;go_wp2;go_roundw;case rel=>exact⟨k+1,Za,by go_num,hB1,λj hj=>(by
         rcases Au j k with h3|h3;.exact HA j h3
         .have:j=k:=Za;subst this;exact HN)⟩
        case measure=>simp[intOf];omega
       subst hii;cases hg:(h i').gone with
       |true=>
        have HN:=Ah (show agH m x n h i'=true by unfold agH;rw[hg];simp);rw[hg]at p1;clear hg;go_wp2;go_roundw;case rel=>exact⟨i'+1,Za,by go_num,hB1,λj hj=>(by
         rcases Au j i' with h3|h3;.exact HA j h3
         .have:j=i':=Za;subst this;exact HN)⟩
        case measure=>simp[intOf];omega
       |false=>rw[hg]at p1;have HG:=Ah hg;clear hg;have hS:=BK now floor m x a1 (some ⟨b,off,none⟩) a3 c1 n c2 n3 c3 (h i').ob.kind (h i').ob.name w1 lo hi Za hm HX (xX.below hBw1 hhi);cases hfn:Ce x (h i').ob.kind (h i').ob.name m with
        |false=>have HE:=Ah (show Ee now floor m x n h=false by unfold Ee Qs;rw[AX (p:=agH m x n h) hkn2 (show agH m x n h i'=false by unfold agH;rw[rC.out,HG.out,show(Nq x (h i').ob.kind (h i').ob.name m).isSome=false from hfn];simp)];simp);rw[hfn]at hS;clear hfn;go_wp2_with fail;refine hS.mono ?_;rintro e w2 ⟨ad',cap',rfl,_,_,hb2⟩;have hB2:=hB1.trans (hb2.mono Za);clear hS hb2;go_wp2;go_ret;exact⟨Ay HE.symm,((Am _ _).trans (hB2.mono Za)).alloc (by have:=hB2.size;simp at this;omega) _⟩
        |true=>
         have HN:=Ah (show agH m x n h i'=true by unfold agH;rw[show(Nq x (h i').ob.kind (h i').ob.name m).isSome=true from hfn];simp);rw[hfn]at hS;clear hfn;go_wp2_with fail;refine hS.mono ?_;rintro e w2 ⟨ad',cap',rfl,_,_,hb2⟩;have hB2:=hB1.trans (hb2.mono Za);have hz2:w.1.size+1<=w2.1.size:=by have:=hB2.size;simp at this;omega
         clear hS hb2;go_wp2;go_roundw;case rel=>exact⟨i'+1,Za,by go_num,(hB2.alloc hz2 _),λj hj=>(by
          rcases Au j i' with h3|h3;.exact HA j h3
          .have:j=i':=Za;subst this;exact HN)⟩
         case measure=>simp[intOf];omega
      .have HE:=Ah (show Ee now floor m x n h=true by unfold Ee Qs;rw[decide_eq_true (show n<=200 by omega),decide_eq_true vH.out,m6.out,rU.out,AP.2 (λi hi=>hall i Za)];rfl);clear hall hc hf hco hx;go_wp2;go_ret;exact⟨Ay HE.symm,hBw⟩
def Y6 (B:Bk):Bool:=M3 B.now B.floor&&(Lk B.on B.os B.now&&(Ee B.now B.floor B.on B.os B.hn B.hs&&OE B.tn B.ts B.now))
theorem PK (p q:Nat->Bool):∀n,Bc (λi=>p i&&q i) n=(Bc p n&&Bc q n)
 |0=>rfl
 |n+1=>by simp only[Bc,PK p q n];cases Bc p n<;>cases Bc q n<;>cases p n<;>cases q n<;>rfl
theorem jY (n:Nat)(x:Nat->Ob)(now:Int):Lk n x now=(E6 n x now&&EX n x):=by unfold Lk E6;cases decide (n<=100)<;>cases K8 n x<;>cases Ml n x now<;>cases EX n x<;>rfl
theorem kP (now floor:Int)(m:Nat)(x:Nat->Ob)(n:Nat)(h:Nat->Ch):Ee now floor m x n h=(KI now floor n h&&(Bc (LO floor h) n&&Qs floor m x n h)):=by
 have h1:Bc (Lv now floor h) n=(Bc (λi=>decide ((h i).ver=floor+1+i)&&K9 (h i) now) n&&Bc (LO floor h) n):=by rw[<-PK];exact congrArg (λp=>Bc p n) (funext λi=>by unfold Lv;cases decide ((h i).ver=floor+1+i)<;>cases K9 (h i) now<;>cases LO floor h i<;>rfl)
 unfold Ee KI;rw[h1];cases decide (n<=200)<;>cases decide ((n:Int)=now-floor)<;>cases Bc (λi=>decide ((h i).ver=floor+1+i)&&K9 (h i) now) n<;>cases Bc (LO floor h) n<;>cases Qs floor m x n h<;>rfl
theorem kG (n:Nat)(x:Nat->Ti)(now:Int):OE n x now=Ly n x now:=by
 unfold OE Ly;have h1:Bc (Po x now) n=(Bc (λi=>Nu (x i) now) n&&Bc (λi=>i==0||KW (x (i-1)).client (x i).client) n):=by rw[<-PK];rfl
 rw[h1];unfold PQ;cases decide (n<=50)<;>cases Bc (λi=>Nu (x i) now) n<;>cases Bc (λi=>i==0||KW (x (i-1)).client (x i).client) n<;>rfl
theorem gP (B:Bk):Y6 B=Bc (LU B) 7:=by unfold Y6;rw[jY,kP,kG];simp only[Bc,LU];cases M3 B.now B.floor<;>cases E6 B.on B.os B.now<;>cases EX B.on B.os<;>cases KI B.now B.floor B.hn B.hs<;>cases Bc (LO B.floor B.hs) B.hn<;>cases Qs B.floor B.on B.os B.hn B.hs<;>cases Ly B.tn B.ts B.now<;>rfl
theorem K2 (B:Bk)(a1 a2 a3:OA)(c1 c2 c3:Nat)(w:World)(lo hi:Nat)(hhi:hi<=w.1.size)(hfit:BL B)(hin:BF w lo hi B a1 a2 a3):Calls prog 21 #[.agg (vB B a1 a2 a3 c1 c2 c3)] w λe w'=>e=.returned (.bool (Bc (LU B) 7))/\Below w.1.size w w':=by rw[<-gP];obtain⟨f1,f2,f3,f4,f5,f6⟩:=hfit;cases h1:EG B.now 0 1000000 with
 |false=>have HE:=Ah (show Y6 B=false by unfold Y6 M3;rw[h1];rfl);go_enter func21,ntmps21;go_wp2_with (go_at_call 37;refine(BM _ _ _ _).mono ?_;rintro e w1 ⟨rfl,rfl⟩;rw[h1]);go_ret;exact⟨Ay HE.symm,Am _ _⟩
 |true=>cases h2:EG B.floor 0 B.now with
 |false=>have HE:=Ah (show Y6 B=false by unfold Y6 M3;rw[h2];simp);go_enter func21,ntmps21;go_wp2_with (go_at_call 37;refine(BM _ _ _ _).mono ?_;rintro e w1 ⟨rfl,rfl⟩;first|rw[h1]|rw[h2]);go_ret;exact⟨Ay HE.symm,Am _ _⟩
 |true=>have HN:=Ah (show M3 B.now B.floor=true by unfold M3;rw[h1,h2];rfl);obtain⟨n1,n2,n3⟩:=O3 HN;have N1:=Ah n1;have N2:=Ah n2;have N3:=Ah n3;clear n1 n2 n3;have hA:=Ah (show BF (w.alloc (.cells (vB B a1 a2 a3 c1 c2 c3) 27)) lo hi B a1 a2 a3 from hin.below (Am _ _) hhi);clear hin;go_enter func21,ntmps21;go_wp2_with (go_at_call 37;refine(BM _ _ _ _).mono ?_;rintro e w1 ⟨rfl,rfl⟩;first|rw[h1]|rw[h2]);refine(Tq B.now B.floor B.on B.os a1 a2 a3 c1 B.hn c2 B.tn c3 _ lo hi Zd Za f4 hA.o).mono ?_;rintro e w1 ⟨rfl,hb1⟩;cases ho:Lk B.on B.os B.now with
 |false=>have HE:=Ah (show Y6 B=false by unfold Y6;rw[ho];simp);go_wp2;go_ret;exact⟨Ay HE.symm,(Am _ _).trans (hb1.mono Zc)⟩
 |true=>
 have HO:=Ah ho;have p0:=Ar hb1 0;have p1:=Ar hb1 1;have p2:=Ar hb1 2;have p3:=Ar hb1 3;have p4:=Ar hb1 4;simp only[Af,Ae,Ad]at p0 p1 p2 p3 p4;have hz1:w.1.size<w1.1.size:=by have:=hb1.size;simp at this;omega
 have hA1:=Ah (hA.below hb1 Zd);have hB1:Below w.1.size w w1:=(Am _ _).trans (hb1.mono Zc);clear hb1 hA ho;go_wp2_with fail;refine(Ty B.now B.floor B.on B.hn B.os B.hs a1 a2 a3 c1 c2 B.tn c3 w1 lo hi Za Za Za N1 N2 N3 f4 f5 hA1.o hA1.h).mono ?_;rintro e w2 ⟨rfl,hb2⟩;cases hh:Ee B.now B.floor B.on B.os B.hn B.hs with
 |false=>have HE:=Ah (show Y6 B=false by unfold Y6;rw[hh];simp);go_wp2;go_ret;exact⟨Ay HE.symm,hB1.trans (hb2.mono Za)⟩
 |true=>
 have HH:=Ah hh;have q0:=(hb2.cell (p:=⟨w.1.size,0,none⟩) hz1).trans p0;have q1:=(hb2.cell (p:=⟨w.1.size,1,none⟩) hz1).trans p1;have q2:=(hb2.cell (p:=⟨w.1.size,2,none⟩) hz1).trans p2;have q3:=(hb2.cell (p:=⟨w.1.size,3,none⟩) hz1).trans p3;have q4:=(hb2.cell (p:=⟨w.1.size,4,none⟩) hz1).trans p4;have hA2:=Ah (hA1.below hb2 Za);have hB2:Below w.1.size w w2:=hB1.trans (hb2.mono Za);have hz2:w.1.size<w2.1.size:=by have:=hb2.size;omega
 clear hb2 hA1 hh p0 p1 p2 p3 p4;go_wp2_with fail;refine(T7 B.now B.floor B.tn B.ts a1 a2 a3 B.on c1 B.hn c2 c3 w2 lo hi Za Za f6 hA2.t).mono ?_;rintro e w3 ⟨rfl,hb3⟩;have HE:=Ah (show Y6 B=OE B.tn B.ts B.now by unfold Y6;rw[HN.out,HO.out,HH.out];rfl);clear q0 q1 q2 q3 q4;go_wp2;go_ret;exact⟨Ay HE.symm,hB2.trans (hb3.mono Za)⟩
end Go.Proofs.Ytnnjcenacidceaa
