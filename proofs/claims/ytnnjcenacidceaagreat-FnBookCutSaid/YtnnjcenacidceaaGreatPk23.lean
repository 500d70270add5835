import Derived.Test.YtnnjcenacidceaaGreatPk14
import Derived.Test.YtnnjcenacidceaaGreatPk16
import Derived.Test.YtnnjcenacidceaaGreatPk15
import Derived.Test.YtnnjcenacidceaaGreatPk11
import Derived.Deep.Cut
import Derived.Deep.CutRange
set_option maxRecDepth 100000
set_option maxHeartbeats 4000000
namespace Go.Proofs.YtnnjcenacidceaaGreat
open Go.RowKit Go.Maps Go.Proofs.Tryz
def Qb (x:Nat->Ti)(now:Int)(i:Nat):Bool:=NH (x i) now&&(i==0||K9 (x (i-1)).client (x i).client)
def PE (n:Nat)(x:Nat->Ti)(now:Int):Bool:=decide (n<=50)&&Bg (Qb x now) n
theorem RL{P:Prop}(h:P:=by
  refine AI Ze Ze ?_;repeat(go_big_quiet_step((first|(go_at_call 55;exact Bm ((A7 _ _ hfc).mono (λe w' h=>⟨h.1,h.2▸Aq _ _⟩)))|(go_at_call 21;exact Bm ((BV _ _ _ _).mono (λe w' h=>⟨h.1,h.2▸Aq _ _⟩))))))
  refine wpQuiet_nil ?_;rintro w2 ⟨u,hu⟩;have hw2:Below (wr.1.size+1) (wr.alloc (.cells (vT (x (m+1))) 58)) w2:=by have h9:=hu▸u.prop;simpa using h9
  clear hu u;go_wp2;go_ret;exact⟨Az HE.symm,(hBw.alloc hBw.size _).trans (hw2.mono Za)⟩):P:=h
theorem Sm{P:Prop}(h:P:=by
  refine AI Ze Ze ?_;repeat(go_big_quiet_step((first|(go_at_call 55;exact Bm ((A7 _ _ hfc).mono (λe w' h=>⟨h.1,h.2▸Aq _ _⟩)))|(go_at_call 21;exact Bm ((BV _ _ _ _).mono (λe w' h=>⟨h.1,h.2▸Aq _ _⟩))))))
  refine wpQuiet_nil ?_;rintro w2 ⟨u,hu⟩;have hw2:Below (wr.1.size+1) (wr.alloc (.cells (vT (x (k))) 58)) w2:=by have h9:=hu▸u.prop;simpa using h9
  clear hu u;go_wp2;go_ret;exact⟨Az HE.symm,(hBw.alloc hBw.size _).trans (hw2.mono Za)⟩):P:=h
theorem Ud (now floor:Int)(n:Nat)(x:Nat->Ti)(a1 a2 a3:OA)(n1 c1 n2 c2 c3:Nat)(w:World)(lo hi:Nat)(hhi:hi<=w.1.size)(hl:(n:Int)<=1099511627776)(hf:∀i,i<n->VU (x i))(hc:DY w lo hi a3 n x):Calls prog 24 #[.agg #[.i now,.i floor,.l a1 n1 c1,.l a2 n2 c2,.l a3 n c3]] w λe w'=>e=.returned (.bool (PE n x now))/\Below w.1.size w w':=by
 by_cases h50:(50:Int)<n;.have HE:=Aj (show PE n x now=false by unfold PE;rw[decide_eq_false Za];rfl);go_enter func24,ntmps24;go_wp2;go_ret;exact⟨Az HE.symm,An _ _⟩
 go_enter func24,ntmps24;go_wp2;go_loopw[3](λi wr=>∃k:Nat,k<=n/\i=.i k/\(∀j,j<k->Qb x now j=true)/\Below (w.1.size+1) (w.alloc (.cells #[.i now,.i floor,.l a1 n1 c1,.l a2 n2 c2,.l a3 n c3] 27)) wr)(λi _=>n-(intOf i).toNat);case atStart=>exact⟨0,At _,rfl,λj hj=>absurd hj (Ai _),Aq _ _⟩
 case round=>
  obtain⟨k,hk,rfl,hall,hb⟩:=hrel;have hBw:Below w.1.size w wr:=(An _ _).trans (hb.mono Za);have hsz:w.1.size+1<=wr.1.size:=by have:=hb.size;simpa using this
  have e0:wr.cell? ⟨w.1.size,0,none⟩=some (.i now):=(hb.cell (p:=⟨w.1.size,0,none⟩) Zg).trans Zc;have e4:wr.cell? ⟨w.1.size,4,none⟩=some (.slice a3 n c3):=(hb.cell (p:=⟨w.1.size,4,none⟩) Zg).trans Zc;by_cases hkn:k<n
  .obtain⟨b,off,rfl,hlo,hbh,hcx⟩:=hc k hkn;have hfc:=(hf k hkn).c;have hfp:=(hf k hkn).p;obtain⟨d0,d1,d2,d3,d4⟩:=hcx.below hBw Za;have hbw:b<wr.1.size:=Za;have hzw:w.1.size<wr.1.size:=Za;have HA:=Aj hall;have hne:Nonempty (GW (wr.alloc (.cells (vT (x k)) 58))):=⟨⟨_,Aq _ _⟩⟩;have z0:=Ak (W1:=wr.alloc (.cells (vT (x k)) 58)) (p:=⟨w.1.size,0,none⟩) ((As _ _ _ hzw).trans e0) Zd;have z4:=Ak (W1:=wr.alloc (.cells (vT (x k)) 58)) (p:=⟨w.1.size,4,none⟩) ((As _ _ _ hzw).trans e4) Zd;have x0:=Ak (W1:=wr.alloc (.cells (vT (x k)) 58)) (p:=⟨wr.1.size,0,none⟩) (v:=.s (x k).client) Zc Zc;have x1:=Ak (W1:=wr.alloc (.cells (vT (x k)) 58)) (p:=⟨wr.1.size,1,none⟩) (v:=.i (x k).num) Zc Zc;have x2:=Ak (W1:=wr.alloc (.cells (vT (x k)) 58)) (p:=⟨wr.1.size,2,none⟩) (v:=.s (x k).print) Zc Zc;have x3:=Ak (W1:=wr.alloc (.cells (vT (x k)) 58)) (p:=⟨wr.1.size,3,none⟩) (v:=.i (x k).code) Zc Zc;have x4:=Ak (W1:=wr.alloc (.cells (vT (x k)) 58)) (p:=⟨wr.1.size,4,none⟩) (v:=.i (x k).ver) Zc Zc;clear hall hcx;have hd9:=d0;go_wp2;clear d0 d1 d2 d3 d4 e0 e4;cases hn:BB (x k).client with
   |false=>clear hc hf;have HE:=Aj (show PE n x now=false by unfold PE;rw[A9 (p:=Qb x now) hkn (by simp[Qb,NH,hn])];simp);exact Sm
   |true=>
    rcases Bi k with hk0|hpos
    .clear hc hf;have hg:decide ((0:Int)<(k:Int))=false:=decide_eq_false Za;have hg2:decide (0<k)=false:=decide_eq_false Za;have hkb:(k==0)=true:=by simp[hk0]
     clear hk0;cases h1:EX (x (k)).num 1 1000000 with
     |false=>have HE:=Aj (show PE n x now=false by unfold PE;rw[A9 (p:=Qb x now) hkn (by simp[Qb,NH,hn,hkb,h1])];simp);exact Sm
     |true=>
     by_cases hp:(x (k)).print.size=8;case neg=>have hpz:(((x (k)).print.size:Int)==8)=false:=Zd;have hpn:(((x (k)).print.size:Int) !=8)=true:=Zd;have HE:=Aj (show PE n x now=false by unfold PE;rw[A9 (p:=Qb x now) hkn (by simp[Qb,NH,hn,hkb,h1,hp])];simp);exact Sm
     have hpz:(((x (k)).print.size:Int)==8)=true:=Zd;have hpn:(((x (k)).print.size:Int) !=8)=false:=Zd;have vJ:=Aj hp;clear hp;cases h2:EX (x (k)).code 0 9 with
     |false=>have HE:=Aj (show PE n x now=false by unfold PE;rw[A9 (p:=Qb x now) hkn (by simp[Qb,NH,hn,hkb,h1,h2])];simp);exact Sm
     |true=>cases h3:EX (x (k)).ver 0 now with
     |false=>have HE:=Aj (show PE n x now=false by unfold PE;rw[A9 (p:=Qb x now) hkn (by simp[Qb,NH,hn,hkb,h1,h2,h3])];simp);exact Sm
     |true=>
      have HN:=Aj (show Qb x now (k)=true by simp[Qb,NH,hn,hkb,h1,h2,h3,vJ.out]);refine AI Ze Ze ?_;repeat(go_big_quiet_step((first|(go_at_call 55;exact Bm ((A7 _ _ hfc).mono (λe w' h=>⟨h.1,h.2▸Aq _ _⟩)))|(go_at_call 21;exact Bm ((BV _ _ _ _).mono (λe w' h=>⟨h.1,h.2▸Aq _ _⟩))))))
      refine wpQuiet_nil ?_;rintro w2 ⟨u,hu⟩;have hw2:Below (wr.1.size+1) (wr.alloc (.cells (vT (x (k))) 58)) w2:=by have h9:=hu▸u.prop;simpa using h9
      clear hu u;go_wp2;go_roundw;case rel=>exact⟨k+1,Za,by go_num,λj hj=>(by
       rcases Aw j (k)with h3|h3;.exact HA j h3
       .have:j=k:=Za;subst this;exact HN),(hb.alloc hsz _).trans (hw2.mono Za)⟩
      case measure=>simp[intOf];omega
    .obtain⟨m,rfl⟩:∃m,k=m+1:=⟨k-1,Za⟩;obtain⟨b',off',e,_,_,hcy⟩:=hc m Za;cases e;have y0:=Ak (W1:=wr.alloc (.cells (vT (x (m+1))) 58)) (p:=⟨b,off+m*5,none⟩) ((As _ _ _ hbw).trans (hcy.below hBw Za).c0) Zd;have hg:decide ((0:Int)<((m+1:Nat):Int))=true:=decide_eq_true Za;clear hc hf hcy;cases hlt:K9 (x m).client (x (m+1)).client with
     |false=>have hlt':Op.bytesLess (x m).client.toList (x (m+1)).client.toList=false:=hlt;have HE:=Aj (show PE n x now=false by unfold PE;rw[A9 (p:=Qb x now) hkn (by simp[Qb,NH,hlt])];simp);exact RL
     |true=>have hlt':Op.bytesLess (x m).client.toList (x (m+1)).client.toList=true:=hlt;cases h1:EX (x (m+1)).num 1 1000000 with
     |false=>have HE:=Aj (show PE n x now=false by unfold PE;rw[A9 (p:=Qb x now) hkn (by simp[Qb,NH,hn,hlt,h1])];simp);exact RL
     |true=>
     by_cases hp:(x (m+1)).print.size=8;case neg=>have hpz:(((x (m+1)).print.size:Int)==8)=false:=Zd;have hpn:(((x (m+1)).print.size:Int) !=8)=true:=Zd;have HE:=Aj (show PE n x now=false by unfold PE;rw[A9 (p:=Qb x now) hkn (by simp[Qb,NH,hn,hlt,h1,hp])];simp);exact RL
     have hpz:(((x (m+1)).print.size:Int)==8)=true:=Zd;have hpn:(((x (m+1)).print.size:Int) !=8)=false:=Zd;have vJ:=Aj hp;clear hp;cases h2:EX (x (m+1)).code 0 9 with
     |false=>have HE:=Aj (show PE n x now=false by unfold PE;rw[A9 (p:=Qb x now) hkn (by simp[Qb,NH,hn,hlt,h1,h2])];simp);exact RL
     |true=>cases h3:EX (x (m+1)).ver 0 now with
     |false=>have HE:=Aj (show PE n x now=false by unfold PE;rw[A9 (p:=Qb x now) hkn (by simp[Qb,NH,hn,hlt,h1,h2,h3])];simp);exact RL
     |true=>
      have HN:=Aj (show Qb x now (m+1)=true by simp[Qb,NH,hn,hlt,h1,h2,h3,vJ.out]);refine AI Ze Ze ?_;repeat(go_big_quiet_step((first|(go_at_call 55;exact Bm ((A7 _ _ hfc).mono (λe w' h=>⟨h.1,h.2▸Aq _ _⟩)))|(go_at_call 21;exact Bm ((BV _ _ _ _).mono (λe w' h=>⟨h.1,h.2▸Aq _ _⟩))))))
      refine wpQuiet_nil ?_;rintro w2 ⟨u,hu⟩;have hw2:Below (wr.1.size+1) (wr.alloc (.cells (vT (x (m+1))) 58)) w2:=by have h9:=hu▸u.prop;simpa using h9
      clear hu u;go_wp2;go_roundw;case rel=>exact⟨m+1+1,Za,by go_num,λj hj=>(by
       rcases Aw j (m+1)with h3|h3;.exact HA j h3
       .have:j=m+1:=Za;subst this;exact HN),(hb.alloc hsz _).trans (hw2.mono Za)⟩
      case measure=>simp[intOf];omega
  .have HE:=Aj (show PE n x now=true by unfold PE;rw[decide_eq_true (show n<=50 by omega),AV.2 (λi hi=>hall i Za)];rfl);clear hc hf hall;go_wp2;go_ret;exact⟨Az HE.symm,hBw⟩
def lL (gn en:Bool)(hn:Nat)(bo ve:Int):Bool:=if gn then en&&(decide (hn=0)&&!decide (bo=ve))else(!en||decide (0<hn))
def LX (now floor:Int)(h:Nat->Ch)(i:Nat):Bool:=decide ((h i).ver=floor+1+i)&&(Lx (h i) now&&L6 floor h i)
def El (now floor:Int)(m:Nat)(x:Nat->Ob)(n:Nat)(h:Nat->Ch):Bool:=decide (n<=200)&&(decide ((n:Int)=now-floor)&&(Bg (LX now floor h) n&&QO floor m x n h))
theorem UG{x:Ob}{now:Int}(h:Bq x now=true):x.born<=x.ver:=by unfold Bq EX at h;simp at h;omega
theorem mX (ve:Int)(gn:Bool)(ki na:ByteArray)(bo:Int)(te:ByteArray)(en:Bool)(hn:Nat)(hs:Nat->ByteArray)(now:Int)(hp:Bq ⟨ki,na,ve,bo,te,en,hn,hs⟩ now=true):Lx ⟨ve,gn,⟨ki,na,ve,bo,te,en,hn,hs⟩⟩ now=lL gn en hn bo ve:=by have h1:=UG hp;dsimp only at h1;unfold Lx lL;simp only[hp];cases gn with
 |false=>simp[C6]
 |true=>
  have h2:decide (bo<ve)=!decide (bo=ve):=by
   by_cases h:bo=ve;.rw[decide_eq_true h,decide_eq_false Za];rfl
   .rw[decide_eq_false h,decide_eq_true Za];rfl
  simp[NX,h2]
theorem iZ (n:Nat)(s:Nat->ByteArray)(m:Nat)(t:Nat->ByteArray):V7 n s m t=V7 m t n s:=by
 unfold V7;by_cases h:n=m;.subst h;rw[show(λi=>decide (s i=t i))=λi=>decide (t i=s i)from funext λi=>by rw[decide_eq_decide];exact⟨Eq.symm,Eq.symm⟩]
 .rw[decide_eq_false h,decide_eq_false (λe=>h e.symm)];rfl
theorem Nf{α:Type}[DecidableEq α](a b:α):decide (a=b)=decide (b=a):=by rw[decide_eq_decide];exact⟨Eq.symm,Eq.symm⟩
theorem Wj (x z:Ob):BR x z=BR z x:=by unfold BR;rw[Nf x.kind,Nf x.name,Nf x.ver,Nf x.born,Nf x.text,Nf x.ending,iZ]
theorem gX{P:Prop}(h:P:=by
  refine AI Ze Ze ?_;repeat(go_big_quiet_step((go_at_call 52;go_must(exact Bm (hK _)))))
  refine wpQuiet_nil ?_;rintro w4 ⟨u,hu⟩;have hw4:Below w3.1.size w3 w4:=hu▸u.prop;clear hu u hne;have hB4:=hB3.trans (hw4.mono Za);clear x0 x1 x2 x3 x4 x5 x6 x7 x8 xr3 xv3 y5 y1 hK;go_wp2;go_ret;exact⟨Az HE.symm,(An _ _).trans (hB4.mono Za)⟩):P:=h
theorem WR{P:Prop}(h:P:=by
  go_wp2;go_roundw;case rel=>exact⟨k+1,Za,by go_num,λj hj=>(by
   rcases Aw j k with h3|h3;.exact HA j h3
   .have:j=k:=Za;subst this;exact HN),hB4⟩
  case measure=>simp[intOf];omega):P:=h
theorem iX{P:Prop}(h:P:=by
  refine AI Ze Ze ?_;repeat(go_big_quiet_step((go_at_call 53;go_must(exact Bm (hSU _)))))
  refine wpQuiet_nil ?_;rintro w2 ⟨u,hu⟩;have hw2:Below w1.1.size w1 w2:=hu▸u.prop;clear hu u hne;have hB2:=hB1.trans (hw2.mono Za);clear u1 u2 u3 v1 hSU xx0 xx1 xx2 xx3 xx4 xx5 xx6 y2 y3 y4 y5 y6 y7 y8;go_wp2;go_ret;exact⟨Az HE.symm,(An _ _).trans (hB2.mono Za)⟩):P:=h
theorem eY{P:Prop}(h:P:=by
  refine AI Ze Ze ?_;repeat(go_big_quiet_step((go_at_call 52;go_must(exact Bm (hK _)))))
  refine wpQuiet_nil ?_;rintro w4 ⟨u,hu⟩;have hw4:Below w3.1.size w3 w4:=hu▸u.prop;clear hu u hne;have hB4:=hB3.trans (hw4.mono Za);clear x0 x1 x2 x3 x4 x5 x6 x7 x8 xr3 xv3 y5 y1 hK;exact WR):P:=h
theorem cQ{P:Prop}(h:P:=by rw[hg]at f1;have y1:=Ak f1 Zk;have HE:=Aj (show El now floor m x n h=false by unfold El;rw[A9 (p:=LX now floor h) hkn (by unfold LX;rw[nL.out];simp[Mg,hcr,hg])];simp);clear hcr hg f1;exact gX):P:=h
theorem i8{P:Prop}(h:P:=by
  go_wp2;go_roundw;case rel=>exact⟨k+1,Za,by go_num,hB2,λj hj=>(by
   rcases Aw j k with h3|h3;.exact HA j h3
   .have:j=k:=Za;subst this;exact HN)⟩
  case measure=>simp[intOf];omega):P:=h
theorem Uk (now floor:Int)(m n:Nat)(x:Nat->Ob)(h:Nat->Ch)(a1 a2 a3:OA)(c1 c2 n3 c3:Nat)(w:World)(lo hi:Nat)(hhi:hi<=w.1.size)(hm:(m:Int)<=1099511627776)(hl:(n:Int)<=1099511627776)(hfl:0<=floor)(hno:floor<=now)(hnm:now<=1000000)(hx:∀i,i<m->Ec (x i))(hf:∀i,i<n->Ec (h i).ob)(hco:BS w lo hi a1 m x)(hc:CB w lo hi a2 n h):Calls prog 23 #[.agg #[.i now,.i floor,.l a1 m c1,.l a2 n c2,.l a3 n3 c3]] w λe w'=>e=.returned (.bool (El now floor m x n h))/\Below w.1.size w w':=by
 by_cases h200:(200:Int)<n;.have HE:=Aj (show El now floor m x n h=false by unfold El;rw[decide_eq_false Za];rfl);go_enter func23,ntmps23;go_wp2;go_ret;exact⟨Az HE.symm,An _ _⟩
 by_cases hnf:(n:Int)=now-floor;case neg=>have HE:=Aj (show El now floor m x n h=false by unfold El;rw[decide_eq_false hnf];simp);go_enter func23,ntmps23;go_wp2;go_ret;exact⟨Az HE.symm,An _ _⟩
 have wE:=Aj hnf;have hnf2:now-floor=(n:Int):=Za;clear hnf;go_enter func23,ntmps23;go_wp2;clear hnf2;go_loopw[3](λi wr=>∃k:Nat,k<=n/\i=.i k/\(∀j,j<k->LX now floor h j=true)/\Below (w.1.size+1) (w.alloc (.cells #[.i now,.i floor,.l a1 m c1,.l a2 n c2,.l a3 n3 c3] 27)) wr)(λi _=>n-(intOf i).toNat);case atStart=>exact⟨0,At _,rfl,λj hj=>absurd hj (Ai _),Aq _ _⟩
 case round=>
  obtain⟨k,hk,rfl,hall,hb⟩:=hrel;have hBw:Below w.1.size w wr:=(An _ _).trans (hb.mono Za);have hsz:w.1.size+1<=wr.1.size:=by have:=hb.size;simpa using this
  have hwz:w.1.size<wr.1.size:=Za;have o0:=Au Zr 0;have o1:=Au Zr 1;have o2:=Au Zr 2;have o3:=Au Zr 3;simp only[Ag,Af,Ae]at o0 o1 o2 o3;by_cases hkn:k<n
  .obtain⟨b,off,ah,ch,rfl,hlo,hbh,hcx,hsx⟩:=hc k hkn;have hfk:=hf k hkn;have hcx:=hcx.below hBw Za;have hs1:=hsx.below hBw hhi;have HA:=Aj hall;have HF:=Aj hf;have uH:=Aj hco;have HX:=Aj hx;have SY:=Aj hc;obtain⟨c,hce⟩:∃c,h k=c:=⟨_,rfl⟩;rw[hce]at hcx hfk hs1;have jR:=Aj hce;obtain⟨ve,gn,ki,na,ov,bo,te,en,hn,hs⟩:=c;obtain⟨d0,d1,d2,d3,d4,d5,d6,d7,d8⟩:=hcx;dsimp only at d0 d1 d2 d3 d4 d5 d6 d7 d8 hs1 hfk;clear hall hc hf hsx hco hx hce;have hkz:(k:Int)+1<=n:=Za;by_cases hv:ve=floor+1+k;case neg=>have HE:=Aj (show El now floor m x n h=false by unfold El;rw[A9 (p:=LX now floor h) hkn (by unfold LX;rw[jR.out,decide_eq_false hv];rfl)];simp);go_wp2;go_ret;exact⟨Az HE.symm,(hBw.alloc hBw.size _).alloc Zd _⟩
   subst hv;by_cases hov:ov=floor+1+k;case neg=>have HE:=Aj (show El now floor m x n h=false by unfold El;rw[A9 (p:=LX now floor h) hkn (by unfold LX Lx;rw[jR.out];simp[hov])];simp);go_wp2;go_ret;exact⟨Az HE.symm,(hBw.alloc hBw.size _).alloc Zd _⟩
   subst hov;have hC:=Tz ⟨ki,na,floor+1+k,bo,te,en,hn,hs⟩ now ah ch ((wr.alloc (.cells #[.i (floor+1+k),.bool gn,.s ki,.s na,.i (floor+1+k),.i bo,.s te,.bool en,.l ah hn ch] 53)).alloc (.cells #[.s ki,.s na,.i (floor+1+k),.i bo,.s te,.bool en,.l ah hn ch] 51)) lo hi Zd hfk ((hs1.alloc Za _).alloc Zd _);dsimp only[vO]at hC;cases hp:Bq ⟨ki,na,floor+1+k,bo,te,en,hn,hs⟩ now with
   |false=>have HE:=Aj (show El now floor m x n h=false by unfold El;rw[A9 (p:=LX now floor h) hkn (by unfold LX Lx;rw[jR.out];simp[hp])];simp);go_wp2_with fail;refine hC.mono ?_;rintro e w2 ⟨rfl,hb2⟩;rw[hp];clear hC;go_wp2;go_ret;exact⟨Az HE.symm,((hBw.alloc hBw.size _).alloc Zd _).trans (hb2.mono Zd)⟩
   |true=>
   have yJ:=Aj (mX (floor+1+k) gn ki na bo te en hn hs now hp);have hnn:(hn:Int)<=140737488355328:=by have:=hfk.h;simpa using(by dsimp only at this;omega)
   go_upto_region 10 with(go_at_call 49;refine hC.mono ?_;rintro e w2 ⟨rfl,hb2⟩;rw[hp];clear hC);have hB2:Below (w.1.size+1) (w.alloc (.cells #[.i now,.i floor,.l a1 m c1,.l (some ⟨b,off,none⟩) n c2,.l a3 n3 c3] 27)) w2:=((hb.alloc hsz _).alloc Zd _).trans (hb2.mono Zd);have hz2:wr.1.size+2<=w2.1.size:=by have:=hb2.size;simp at this;omega
   have s0:=AX hb2 0;have s1:=AX hb2 1;have s2:=AX hb2 2;have s3:=AX hb2 3;have s4:=AX hb2 4;have s5:=AX hb2 5;have s6:=AX hb2 6;have s7:=AX hb2 7;have s8:=AX hb2 8;have t0:=Au hb2 0;have t1:=Au hb2 1;have t2:=Au hb2 2;have t3:=Au hb2 3;have t4:=Au hb2 4;have t5:=Au hb2 5;have t6:=Au hb2 6;simp only[Ag,Af,Ae,Av]at s0 s1 s2 s3 s4 s5 s6 s7 s8 t0 t1 t2 t3 t4 t5 t6;have o0:=Au (by simpa using hB2) 0;have o1:=Au (by simpa using hB2) 1;have o2:=Au (by simpa using hB2) 2;have o3:=Au (by simpa using hB2) 3;simp only[Ag,Af,Ae]at o0 o1 o2 o3;clear hb2 d0 d1 d2 d3 d4 d5 d6 d7 d8 hp;go_cut[98]from 28 to 141 (λs98 wx=>s98=.bool (!lL gn en hn bo (floor+1+k))/\w2=wx);case first=>cases gn with
    |true=>cases en with
     |false=>go_wp2_with fail;go_meet;exact⟨rfl,rfl⟩
     |true=>
      by_cases h0:hn=0
      .subst h0;by_cases h1:bo=floor+1+k
       .subst h1;go_wp2_with fail;go_meet;exact⟨congrArg Value.bool (by simp[lL]),rfl⟩
       .have h1b:(bo==floor+1+k)=false:=by simp[h1]
        have HH:=Aj h1;clear h1;go_wp2_with fail;go_meet;exact⟨congrArg Value.bool (by simp[lL,HH.out]),rfl⟩
      .have h2:decide ((0:Int)<(hn:Int))=true:=decide_eq_true Za;have h3:(0:Int)<hn:=Za;have HH:=Aj h0;clear h0;go_wp2_with fail;go_meet;exact⟨congrArg Value.bool (by simp[lL,HH.out]),rfl⟩
    |false=>cases en with
     |false=>go_wp2_with fail;go_meet;exact⟨rfl,rfl⟩
     |true=>
      by_cases h0:hn=0;.subst h0;go_wp2_with fail;go_meet;exact⟨congrArg Value.bool (by simp[lL]),rfl⟩
      .have h2:((hn:Int)==0)=false:=Zd;have HH:=Aj h0;clear h0;go_wp2_with fail;go_meet;exact⟨congrArg Value.bool (by have:=HH.out;simp[lL];omega),rfl⟩
   case rest=>obtain⟨rfl,rfl⟩:=hcut;cases hgb:lL gn en hn bo (floor+1+k)with
   |false=>have HE:=Aj (show El now floor m x n h=false by unfold El;rw[A9 (p:=LX now floor h) hkn (by unfold LX;rw[jR.out,yJ.out,hgb];simp)];simp);go_wp2;go_ret;exact⟨Az HE.symm,(An _ _).trans (hB2.mono Za)⟩
   |true=>have HG:=Aj (yJ.trans hgb);clear hgb;have hBW2:Below w.1.size w w2:=(An _ _).trans (hB2.mono Za);have hL:=ON n k h ⟨ki,na,floor+1+k,bo,te,en,hn,hs⟩ (some ⟨b,off,none⟩) ah c2 ch w2 lo hi Za hl Za (SY.below hBW2 hhi);dsimp only[vO]at hL;have hK:=λw=>VS ⟨floor+1+k,gn,⟨ki,na,floor+1+k,bo,te,en,hn,hs⟩⟩ ah ch w;dsimp only at hK;cases hfd:LQ h ki na k with
   |none=>
    have SX:Mk h ⟨ki,na,floor+1+k,bo,te,en,hn,hs⟩ k=-1:=by unfold Mk;dsimp only;rw[hfd]
    have nL:=Aj (show L6 floor h k=My ⟨floor+1+k,gn,⟨ki,na,floor+1+k,bo,te,en,hn,hs⟩⟩ floor by unfold L6;rw[jR.out];dsimp only;rw[hfd]);rw[SX]at hL;clear SX hfd;go_wp2_with fail;refine hL.mono ?_;rintro e w3 ⟨rfl,hb3⟩;clear hL;have q0:=(hb3.cell (p:=⟨wr.1.size,0,none⟩) Zj).trans s0;have q1:=(hb3.cell (p:=⟨wr.1.size,1,none⟩) Zj).trans s1;have q2:=(hb3.cell (p:=⟨wr.1.size,2,none⟩) Zj).trans s2;have q3:=(hb3.cell (p:=⟨wr.1.size,3,none⟩) Zj).trans s3;have q4:=(hb3.cell (p:=⟨wr.1.size,4,none⟩) Zj).trans s4;have q5:=(hb3.cell (p:=⟨wr.1.size,5,none⟩) Zj).trans s5;have q6:=(hb3.cell (p:=⟨wr.1.size,6,none⟩) Zj).trans s6;have q7:=(hb3.cell (p:=⟨wr.1.size,7,none⟩) Zj).trans s7;have q8:=(hb3.cell (p:=⟨wr.1.size,8,none⟩) Zj).trans s8;have r3:=(hb3.cell (p:=⟨wr.1.size+1,3,none⟩) (by show wr.1.size+1<_;omega)).trans t3;have v1:=(hb3.cell (p:=⟨w.1.size,1,none⟩) Zg).trans o1;have hz3:wr.1.size+2<=w3.1.size:=by have:=hb3.size;omega
    have hB3:=hB2.trans (hb3.mono Za);clear s0 s1 s2 s3 s4 s5 s6 s7 s8 t0 t1 t2 t3 t4 t5 t6 o0 o1 o2 o3 hb3;go_wp2_with fail;refine(hK _).mono ?_;rintro e w4 ⟨rfl,hb4⟩;clear hK;have g3:=(hb4.cell (p:=⟨wr.1.size+1,3,none⟩) (by show wr.1.size+1<_;omega)).trans r3;have f1:=(hb4.cell (p:=⟨w.1.size,1,none⟩) Zg).trans v1;have hB4:=hB3.trans (hb4.mono Za);clear q0 q1 q2 q3 q4 q5 q6 q7 q8 r3 v1 hb4;cases hcr:OT ⟨floor+1+k,gn,⟨ki,na,floor+1+k,bo,te,en,hn,hs⟩⟩with
    |true=>have HN:=Aj (show LX now floor h k=true by unfold LX;rw[nL.out,jR.out,HG.out];simp[My,hcr]);exact WR
    |false=>
     by_cases hbf:floor<bo;.have HE:=Aj (show El now floor m x n h=false by unfold El;rw[A9 (p:=LX now floor h) hkn (by unfold LX;rw[nL.out];have:¬bo<=floor:=Za;simp[My,hcr,this])];simp);go_wp2;go_ret;exact⟨Az HE.symm,(An _ _).trans (hB4.mono Za)⟩
     .have HN:=Aj (show LX now floor h k=true by unfold LX;rw[nL.out,jR.out,HG.out];have:bo<=floor:=Za;simp[My,this]);exact WR
   |some i=>
    have hin:=(Mi hfd).1;have SX:Mk h ⟨ki,na,floor+1+k,bo,te,en,hn,hs⟩ k=i:=by unfold Mk;dsimp only;rw[hfd]
    have nL:=Aj (show L6 floor h k=Mg (h i) ⟨floor+1+k,gn,⟨ki,na,floor+1+k,bo,te,en,hn,hs⟩⟩by unfold L6;rw[jR.out];dsimp only;rw[hfd]);rw[SX]at hL;clear SX hfd;obtain⟨b',off',ah',ch',e,hlo',hbh',hcy,hsy⟩:=SY i Za;cases e;have hiz:(i:Int)+1<=n:=Za;have hi0:decide ((i:Int)<0)=false:=decide_eq_false Za;go_wp2_with fail;refine hL.mono ?_;rintro e w3 ⟨rfl,hb3⟩;clear hL;have hz3:wr.1.size+2<=w3.1.size:=by have:=hb3.size;omega
    have q0:=(hb3.cell (p:=⟨wr.1.size,0,none⟩) Zj).trans s0;have q1:=(hb3.cell (p:=⟨wr.1.size,1,none⟩) Zj).trans s1;have q2:=(hb3.cell (p:=⟨wr.1.size,2,none⟩) Zj).trans s2;have q3:=(hb3.cell (p:=⟨wr.1.size,3,none⟩) Zj).trans s3;have q4:=(hb3.cell (p:=⟨wr.1.size,4,none⟩) Zj).trans s4;have q5:=(hb3.cell (p:=⟨wr.1.size,5,none⟩) Zj).trans s5;have q6:=(hb3.cell (p:=⟨wr.1.size,6,none⟩) Zj).trans s6;have q7:=(hb3.cell (p:=⟨wr.1.size,7,none⟩) Zj).trans s7;have q8:=(hb3.cell (p:=⟨wr.1.size,8,none⟩) Zj).trans s8;have r3:=(hb3.cell (p:=⟨wr.1.size+1,3,none⟩) (by show wr.1.size+1<_;omega)).trans t3;have v3:=(hb3.cell (p:=⟨w.1.size,3,none⟩) Zg).trans o3;have hB3:=hB2.trans (hb3.mono Za);have hBw3:Below w.1.size w w3:=(An _ _).trans (hB3.mono Za);obtain⟨f0,f1,f2,f3,f4,f5,f6,f7,f8⟩:=hcy.below hBw3 Za;clear s0 s1 s2 s3 s4 s5 s6 s7 s8 t0 t1 t2 t3 t4 t5 t6 o0 o1 o2 o3 hb3 hcy hsy;go_wp2;have x0:=Ak q0 Zj;have x1:=Ak q1 Zj;have x2:=Ak q2 Zj;have x3:=Ak q3 Zj;have x4:=Ak q4 Zj;have x5:=Ak q5 Zj;have x6:=Ak q6 Zj;have x7:=Ak q7 Zj;have x8:=Ak q8 Zj;have xr3:=Ak r3 (by show wr.1.size+1<_;omega);have xv3:=Ak v3 Zg;have y5:=Ak f5 Zk;have hne:Nonempty (GW w3):=⟨⟨_,Aq _ _⟩⟩;obtain⟨pv,hpb⟩:∃pv,(h i).ob.born=pv:=⟨_,rfl⟩;rw[hpb]at y5;have rJ:=Aj hpb;clear hpb;clear q0 q1 q2 q3 q4 q5 q6 q7 q8 r3 v3 f0 f2 f3 f4 f5 f6 f7 f8;cases hcr:OT ⟨floor+1+k,gn,⟨ki,na,floor+1+k,bo,te,en,hn,hs⟩⟩with
    |true=>rw[hcr]at hK;cases hg:(h i).gone with
     |true=>rw[hg]at f1;have y1:=Ak f1 Zk;have HN:=Aj (show LX now floor h k=true by unfold LX;rw[nL.out,jR.out,HG.out];simp[Mg,hcr,hg]);clear hcr hg f1;exact eY
     |false=>exact cQ
    |false=>rw[hcr]at hK;cases hg:(h i).gone with
     |true=>exact cQ
     |false=>
      rw[hg]at f1;have y1:=Ak f1 Zk;by_cases hq:pv=bo
      .have hqb:(bo !=pv)=false:=by simp[hq]
       have HN:=Aj (show LX now floor h k=true by unfold LX;rw[nL.out,jR.out,HG.out];simp[Mg,hcr,hg,rJ.out,hq]);clear hcr hg f1 hq;exact eY
      .have hqb:(bo !=pv)=true:=by simp;exact λe=>hq e.symm
       have HE:=Aj (show El now floor m x n h=false by unfold El;rw[A9 (p:=LX now floor h) hkn (by unfold LX;rw[nL.out];simp[Mg,hcr,hg,rJ.out,hq])];simp);clear hcr hg f1 hq;exact gX
  .have:n=k:=Za;subst this;have rL:=Aj (show Bg (LX now floor h) n=true from AV.2 hall);clear hall;go_wp2;clear o0 o1 o2 o3;obtain⟨W,hW⟩:∃W,W=wr:=⟨wr,rfl⟩;subst hW;go_loopw[7](λi wq=>∃k:Nat,k<=m/\i=.i k/\Below (w.1.size+1) (w.alloc (.cells #[.i now,.i floor,.l a1 m c1,.l a2 n c2,.l a3 n3 c3] 27)) wq/\∀j,j<k->agO floor x n h j=true)(λi _=>m-(intOf i).toNat);case atStart=>exact⟨0,At _,rfl,hb,λj hj=>absurd hj (Ai _)⟩
   case round=>
    obtain⟨k,hk2,rfl,hb,hall⟩:=hrel;have hBw:Below w.1.size w wr:=(An _ _).trans (hb.mono Za);have hsz:w.1.size+1<=wr.1.size:=by have:=hb.size;simpa using this
    have hwz:w.1.size<wr.1.size:=Za;have hhw:hi<=wr.1.size:=Za;have o0:=Au Zr 0;have o1:=Au Zr 1;have o2:=Au Zr 2;have o3:=Au Zr 3;have o4:=Au Zr 4;simp only[Ag,Af,Ae]at o0 o1 o2 o3 o4;by_cases hkm:k<m
    .obtain⟨b,off,ah,ch,rfl,hlo,hbh,hcx,hsx⟩:=hco k hkm;have hxk:=hx k hkm;have hxh:((x k).hn:Int)<=140737488355328:=by have:=hxk.h;omega
     obtain⟨d0,d1,d2,d3,d4,d5,d6⟩:=hcx.below hBw Za;have HA:=Aj hall;have HC:=Aj hc;have HF:=Aj hf;have HS:=Aj hsx;have hcu:∀u:GW wr,CB u.val lo hi a2 n h:=λu=>hc.below (hBw.trans (u.prop.mono Za)) hhi;have hhu:∀u:GW wr,hi<=u.val.1.size:=λu=>AS hhw u.prop.size;have hLU:∀u:GW wr,Calls prog 51 #[.l a2 n c2,.agg (vO (x k) ah ch),.i n] u.val λe w'=>e=.returned (.i (Mk h (x k) n))/\Below u.val.1.size u.val w':=λu=>ON n n h (x k) a2 ah c2 ch _ lo hi (hhu u) hl AQ (hcu u);clear hall hc hf hco hx hcx hsx hcu hhu;have z2:=Ak o2 Zg;have z3:=Ak o3 Zg;have x0:=Ak d0 Zk;have x1:=Ak d1 Zk;have x2:=Ak d2 Zk;have x3:=Ak d3 Zk;have x4:=Ak d4 Zk;have x5:=Ak d5 Zk;have x6:=Ak d6 Zk;have hne:Nonempty (GW wr):=⟨⟨_,Aq _ _⟩⟩;go_wp2;cases hfd:LQ h (x k).kind (x k).name n with
     |none=>
      have SX:Mk h (x k) n=-1:=by unfold Mk;rw[hfd]
      have HL:=Aj (show agO floor x n h k=decide ((x k).ver<=floor)by unfold agO;rw[hfd]);simp only[SX]at hLU;clear SX hfd;refine AI Ze Ze ?_;repeat(go_big_quiet_step((go_at_call 51;go_must(exact Bm (hLU _)))))
      refine wpQuiet_nil ?_;rintro w1 ⟨u,hu⟩;have hw1:Below wr.1.size wr w1:=hu▸u.prop;clear hu u hne hLU z2 z3 x0 x1 x2 x3 x4 x5 x6;have hB1:=hb.trans (hw1.mono Za);have p1:=(hw1.cell (p:=⟨w.1.size,1,none⟩) Zg).trans o1;have p2:=(hw1.cell (p:=⟨w.1.size,2,none⟩) Zg).trans o2;have p3:=(hw1.cell (p:=⟨w.1.size,3,none⟩) Zg).trans o3;have e2:=(hw1.cell (p:=⟨b,off+k*7+2,none⟩) Zk).trans d2;have hz1:wr.1.size<=w1.1.size:=hw1.size;have u1:=Ak p1 Zg;have u2:=Ak p2 Zg;have u3:=Ak p3 Zg;have y2:=Ak e2 Zk;have hne:Nonempty (GW w1):=⟨⟨_,Aq _ _⟩⟩;clear d0 d1 d2 d3 d4 d5 d6 o0 o1 o2 o3 o4 p1 p2 p3 e2 hw1;go_wp2;by_cases hv:(x k).ver<=floor
      .have HN:=Aj (show agO floor x n h k=true by rw[HL.out];exact decide_eq_true hv);have hd:decide (floor<(x k).ver)=false:=decide_eq_false Za;refine AI Ze Ze ?_;repeat(go_big_quiet_step(fail))
       refine wpQuiet_nil ?_;rintro w2 ⟨u,hu⟩;have hw2:Below w1.1.size w1 w2:=hu▸u.prop;clear hu u hne;have hB2:=hB1.trans (hw2.mono Za);clear u1 u2 u3 y2;exact i8
      .have HE:=Aj (show El now floor m x n h=false by unfold El QO;rw[A9 (p:=agO floor x n h) hkm (HL.trans (decide_eq_false hv))];simp);have hd:decide (floor<(x k).ver)=true:=decide_eq_true Za;refine AI Ze Ze ?_;repeat(go_big_quiet_step(fail))
       refine wpQuiet_nil ?_;rintro w2 ⟨u,hu⟩;have hw2:Below w1.1.size w1 w2:=hu▸u.prop;clear hu u hne;have hB2:=hB1.trans (hw2.mono Za);clear u1 u2 u3 y2;go_wp2;go_ret;exact⟨Az HE.symm,(An _ _).trans (hB2.mono Za)⟩
     |some j=>
      have hjn:=(Mi hfd).1;have SX:Mk h (x k) n=j:=by unfold Mk;rw[hfd]
      have HL:=Aj (show agO floor x n h k=(!(h j).gone&&BR (h j).ob (x k))by unfold agO;rw[hfd,Wj (h j).ob]);simp only[SX]at hLU;clear SX hfd;obtain⟨b',off',ah',ch',rfl,hlo',hbh',hcy,hsy⟩:=HC j hjn;have hjh:((h j).ob.hn:Int)<=140737488355328:=by have:=(HF j hjn).h;omega
      have wP:=Aj hsy;clear hsy;have hjz:(j:Int)+1<=n:=Za;have hj0:decide ((0:Int)<=(j:Int))=true:=decide_eq_true Za;have hj1:decide ((j:Int)<0)=false:=decide_eq_false Za;refine AI Ze Ze ?_;repeat(go_big_quiet_step((go_at_call 51;go_must(exact Bm (hLU _)))))
      refine wpQuiet_nil ?_;rintro w1 ⟨u,hu⟩;have hw1:Below wr.1.size wr w1:=hu▸u.prop;clear hu u hne hLU z2 z3 x0 x1 x2 x3 x4 x5 x6;have hB1:=hb.trans (hw1.mono Za);have hBw1:Below w.1.size w w1:=(An _ _).trans (hB1.mono Za);have hz1:wr.1.size<=w1.1.size:=hw1.size;have p1:=(hw1.cell (p:=⟨w.1.size,1,none⟩) Zg).trans o1;have p2:=(hw1.cell (p:=⟨w.1.size,2,none⟩) Zg).trans o2;have p3:=(hw1.cell (p:=⟨w.1.size,3,none⟩) Zg).trans o3;have u1:=Ak p1 Zg;have u2:=Ak p2 Zg;have u3:=Ak p3 Zg;have e0:=(hw1.cell (p:=⟨b,off+k*7,none⟩) Zk).trans d0;have e1:=(hw1.cell (p:=⟨b,off+k*7+1,none⟩) Zk).trans d1;have e2:=(hw1.cell (p:=⟨b,off+k*7+2,none⟩) Zk).trans d2;have e3:=(hw1.cell (p:=⟨b,off+k*7+3,none⟩) Zk).trans d3;have e4:=(hw1.cell (p:=⟨b,off+k*7+4,none⟩) Zk).trans d4;have e5:=(hw1.cell (p:=⟨b,off+k*7+5,none⟩) Zk).trans d5;have e6:=(hw1.cell (p:=⟨b,off+k*7+6,none⟩) Zk).trans d6;have xx0:=Ak e0 Zk;have xx1:=Ak e1 Zk;have xx2:=Ak e2 Zk;have xx3:=Ak e3 Zk;have xx4:=Ak e4 Zk;have xx5:=Ak e5 Zk;have xx6:=Ak e6 Zk;obtain⟨f0,f1,f2,f3,f4,f5,f6,f7,f8⟩:=hcy.below hBw1 Za;have y2:=Ak f2 Zz;have y3:=Ak f3 Zz;have y4:=Ak f4 Zz;have y5:=Ak f5 Zz;have y6:=Ak f6 Zz;have y7:=Ak f7 Zz;have y8:=Ak f8 Zz;have hne:Nonempty (GW w1):=⟨⟨_,Aq _ _⟩⟩;have hhw1:hi<=w1.1.size:=Za;have hhu:∀u:GW w1,hi<=u.val.1.size:=λu=>AS hhw1 u.prop.size;have hu1:∀u:GW w1,AD u.val lo hi ah (x k).hn (x k).hs:=λu=>HS.below (hBw1.trans (u.prop.mono Za)) hhi;have hu2:∀u:GW w1,AD u.val lo hi ah' (h j).ob.hn (h j).ob.hs:=λu=>wP.below (hBw1.trans (u.prop.mono Za)) hhi;have hSU:∀u:GW w1,Calls prog 53 #[.agg (vO (h j).ob ah' ch'),.agg (vO (x k) ah ch)] u.val λe w'=>e=.returned (.bool (BR (h j).ob (x k)))/\Below u.val.1.size u.val w':=λu=>Wf (h j).ob (x k) ah' ah ch' ch _ lo hi (hhu u) hjh hxh (hu2 u) (hu1 u);clear d0 d1 d2 d3 d4 d5 d6 o0 o1 o2 o3 o4 p1 p2 p3 e0 e1 e2 e3 e4 e5 e6 hw1 hcy f0 f2 f3 f4 f5 f6 f7 f8 hhu hu1 hu2;go_wp2;cases hg:(h j).gone with
      |true=>have HE:=Aj (show El now floor m x n h=false by unfold El QO;rw[A9 (p:=agO floor x n h) hkm (HL.trans (by rw[hg];rfl))];simp);rw[hg]at f1;have v1:=Ak f1 Zz;clear hg f1;exact iX
      |false=>rw[hg]at f1;have v1:=Ak f1 Zz;have Nd:=Aj (show agO floor x n h k=BR (h j).ob (x k)by rw[HL.out,hg];rfl);clear hg f1;cases hsm:BR (h j).ob (x k)with
       |false=>have HE:=Aj (show El now floor m x n h=false by unfold El QO;rw[A9 (p:=agO floor x n h) hkm (Nd.trans hsm)];simp);simp only[hsm]at hSU;clear hsm;exact iX
       |true=>
        have HN:=Aj (Nd.trans hsm);simp only[hsm]at hSU;clear hsm;refine AI Ze Ze ?_;repeat(go_big_quiet_step((go_at_call 53;go_must(exact Bm (hSU _)))))
        refine wpQuiet_nil ?_;rintro w2 ⟨u,hu⟩;have hw2:Below w1.1.size w1 w2:=hu▸u.prop;clear hu u hne;have hB2:=hB1.trans (hw2.mono Za);clear u1 u2 u3 v1 hSU xx0 xx1 xx2 xx3 xx4 xx5 xx6 y2 y3 y4 y5 y6 y7 y8;exact i8
    .have:m=k:=Za;subst this;have vX:=Aj (show Bg (agO floor x n h) m=true from AV.2 hall);clear hall;go_wp2;clear o0 o1 o2 o3 o4;obtain⟨V,hV⟩:∃V,V=wr:=⟨wr,rfl⟩;subst hV;go_loopw[9](λi wq=>∃k:Nat,k<=n/\i=.i k/\Below (w.1.size+1) (w.alloc (.cells #[.i now,.i floor,.l a1 m c1,.l a2 n c2,.l a3 n3 c3] 27)) wq/\∀j,j<k->agH m x n h j=true)(λi _=>n-(intOf i).toNat);case atStart=>exact⟨0,At _,rfl,hb,λj hj=>absurd hj (Ai _)⟩
     case round=>
      obtain⟨k,hk2,rfl,hb,hall⟩:=hrel;have hBw:Below w.1.size w wr:=(An _ _).trans (hb.mono Za);have hsz:w.1.size+1<=wr.1.size:=by have:=hb.size;simpa using this
      have hwz:w.1.size<wr.1.size:=Za;have hhw:hi<=wr.1.size:=Za;have o0:=Au Zr 0;have o1:=Au Zr 1;have o2:=Au Zr 2;have o3:=Au Zr 3;have o4:=Au Zr 4;simp only[Ag,Af,Ae]at o0 o1 o2 o3 o4;by_cases hkn2:k<n
      .obtain⟨b,off,ah,ch,rfl,hlo,hbh,hcx,hsx⟩:=hc k hkn2;obtain⟨d0,d1,d2,d3,d4,d5,d6,d7,d8⟩:=hcx.below hBw Za;obtain⟨i',hli⟩:=VN (h:=h) hkn2;have SX:Mk h (h k).ob n=i':=by unfold Mk;rw[hli]
       have yE:=Aj hli;have hin:=(Mi hli).1;have hL:=ON n n h (h k).ob (some ⟨b,off,none⟩) ah c2 ch (wr.alloc (.cells #[.i (h k).ver,.bool (h k).gone,.s (h k).ob.kind,.s (h k).ob.name,.i (h k).ob.ver,.i (h k).ob.born,.s (h k).ob.text,.bool (h k).ob.ending,.l ah (h k).ob.hn ch] 53)) lo hi Zd hl AQ (hc.below (hBw.alloc hBw.size _) hhi);rw[SX]at hL;have HA:=Aj hall;have uH:=Aj hco;have HX:=Aj hx;clear SX hli hall hc hf hcx hsx hco hx;go_wp2_with fail;refine hL.mono ?_;rintro e w1 ⟨rfl,hb1⟩;clear hL;have hB1:Below (w.1.size+1) (w.alloc (.cells #[.i now,.i floor,.l a1 m c1,.l (some ⟨b,off,none⟩) n c2,.l a3 n3 c3] 27)) w1:=(hb.alloc hsz _).trans (hb1.mono Zd);have hBw1:Below w.1.size w w1:=(An _ _).trans (hB1.mono Za);have hz1:wr.1.size+1<=w1.1.size:=by have:=hb1.size;simp at this;omega
       have p1:=Au hb1 1;have p2:=Au hb1 2;have p3:=Au hb1 3;have o0:=Au YO 0;have o1:=Au YO 1;have o2:=Au YO 2;have o3:=Au YO 3;have o4:=Au YO 4;simp only[Ag,Af,Ae]at p1 p2 p3 o0 o1 o2 o3 o4;clear d0 d1 d2 d3 d4 d5 d6 d7 d8 hb1;by_cases hii:i'=k;case neg=>
        have HN:=Aj (show agH m x n h k=true by unfold agH;rw[yE.out];simp[hii]);have hd:((i':Int) !=(k:Int))=true:=Zd;have hd2:¬(i':Int)=(k:Int):=Za;clear hii;go_wp2;go_roundw;case rel=>exact⟨k+1,Za,by go_num,hB1,λj hj=>(by
         rcases Aw j k with h3|h3;.exact HA j h3
         .have:j=k:=Za;subst this;exact HN)⟩
        case measure=>simp[intOf];omega
       subst hii;cases hg:(h i').gone with
       |true=>
        have HN:=Aj (show agH m x n h i'=true by unfold agH;rw[hg];simp);rw[hg]at p1;clear hg;go_wp2;go_roundw;case rel=>exact⟨i'+1,Za,by go_num,hB1,λj hj=>(by
         rcases Aw j i' with h3|h3;.exact HA j h3
         .have:j=i':=Za;subst this;exact HN)⟩
        case measure=>simp[intOf];omega
       |false=>rw[hg]at p1;have HG:=Aj hg;clear hg;have hS:=BP now floor m x a1 (some ⟨b,off,none⟩) a3 c1 n c2 n3 c3 (h i').ob.kind (h i').ob.name w1 lo hi Za hm HX (uH.below hBw1 hhi);cases hfn:B4 x (h i').ob.kind (h i').ob.name m with
        |false=>have HE:=Aj (show El now floor m x n h=false by unfold El QO;rw[A9 (p:=agH m x n h) hkn2 (show agH m x n h i'=false by unfold agH;rw[yE.out,HG.out,show(Nq x (h i').ob.kind (h i').ob.name m).isSome=false from hfn];simp)];simp);rw[hfn]at hS;clear hfn;go_wp2_with fail;refine hS.mono ?_;rintro e w2 ⟨ad',cap',rfl,_,_,hb2⟩;have hB2:=hB1.trans (hb2.mono Za);clear hS hb2;go_wp2;go_ret;exact⟨Az HE.symm,((An _ _).trans (hB2.mono Za)).alloc (by have:=hB2.size;simp at this;omega) _⟩
        |true=>
         have HN:=Aj (show agH m x n h i'=true by unfold agH;rw[show(Nq x (h i').ob.kind (h i').ob.name m).isSome=true from hfn];simp);rw[hfn]at hS;clear hfn;go_wp2_with fail;refine hS.mono ?_;rintro e w2 ⟨ad',cap',rfl,_,_,hb2⟩;have hB2:=hB1.trans (hb2.mono Za);have hz2:w.1.size+1<=w2.1.size:=by have:=hB2.size;simp at this;omega
         clear hS hb2;go_wp2;go_roundw;case rel=>exact⟨i'+1,Za,by go_num,(hB2.alloc hz2 _),λj hj=>(by
          rcases Aw j i' with h3|h3;.exact HA j h3
          .have:j=i':=Za;subst this;exact HN)⟩
         case measure=>simp[intOf];omega
      .have HE:=Aj (show El now floor m x n h=true by unfold El QO;rw[decide_eq_true (show n<=200 by omega),decide_eq_true wE.out,rL.out,vX.out,AV.2 (λi hi=>hall i Za)];rfl);clear hall hc hf hco hx;go_wp2;go_ret;exact⟨Az HE.symm,hBw⟩
def ZK (B:Bk):Bool:=No B.now B.floor&&(LH B.on B.os B.now&&(El B.now B.floor B.on B.os B.hn B.hs&&PE B.tn B.ts B.now))
theorem PW (p q:Nat->Bool):∀n,Bg (λi=>p i&&q i) n=(Bg p n&&Bg q n)
 |0=>rfl
 |n+1=>by simp only[Bg,PW p q n];cases Bg p n<;>cases Bg q n<;>cases p n<;>cases q n<;>rfl
theorem lA (n:Nat)(x:Nat->Ob)(now:Int):LH n x now=(Fg n x now&&EV n x):=by unfold LH Fg;cases decide (n<=100)<;>cases Lw n x<;>cases MB n x now<;>cases EV n x<;>rfl
theorem mT (now floor:Int)(m:Nat)(x:Nat->Ob)(n:Nat)(h:Nat->Ch):El now floor m x n h=(KW now floor n h&&(Bg (L6 floor h) n&&QO floor m x n h)):=by
 have h1:Bg (LX now floor h) n=(Bg (λi=>decide ((h i).ver=floor+1+i)&&Lx (h i) now) n&&Bg (L6 floor h) n):=by rw[<-PW];exact congrArg (λp=>Bg p n) (funext λi=>by unfold LX;cases decide ((h i).ver=floor+1+i)<;>cases Lx (h i) now<;>cases L6 floor h i<;>rfl)
 unfold El KW;rw[h1];cases decide (n<=200)<;>cases decide ((n:Int)=now-floor)<;>cases Bg (λi=>decide ((h i).ver=floor+1+i)&&Lx (h i) now) n<;>cases Bg (L6 floor h) n<;>cases QO floor m x n h<;>rfl
theorem kS (n:Nat)(x:Nat->Ti)(now:Int):PE n x now=LS n x now:=by
 unfold PE LS;have h1:Bg (Qb x now) n=(Bg (λi=>NH (x i) now) n&&Bg (λi=>i==0||K9 (x (i-1)).client (x i).client) n):=by rw[<-PW];rfl
 rw[h1];unfold QB;cases decide (n<=50)<;>cases Bg (λi=>NH (x i) now) n<;>cases Bg (λi=>i==0||K9 (x (i-1)).client (x i).client) n<;>rfl
theorem iO (B:Bk):ZK B=Bg (Me B) 7:=by unfold ZK;rw[lA,mT,kS];simp only[Bg,Me];cases No B.now B.floor<;>cases Fg B.on B.os B.now<;>cases EV B.on B.os<;>cases KW B.now B.floor B.hn B.hs<;>cases Bg (L6 B.floor B.hs) B.hn<;>cases QO B.floor B.on B.os B.hn B.hs<;>cases LS B.tn B.ts B.now<;>rfl
theorem L4 (B:Bk)(a1 a2 a3:OA)(c1 c2 c3:Nat)(w:World)(lo hi:Nat)(hhi:hi<=w.1.size)(hfit:BQ B)(hin:BF w lo hi B a1 a2 a3):Calls prog 8 #[.agg (vB B a1 a2 a3 c1 c2 c3)] w λe w'=>e=.returned (.bool (Bg (Me B) 7))/\Below w.1.size w w':=by rw[<-iO];obtain⟨f1,f2,f3,f4,f5,f6⟩:=hfit;cases h1:EX B.now 0 1000000 with
 |false=>have HE:=Aj (show ZK B=false by unfold ZK No;rw[h1];rfl);go_enter func8,ntmps8;go_wp2_with (go_at_call 21;refine(BV _ _ _ _).mono ?_;rintro e w1 ⟨rfl,rfl⟩;rw[h1]);go_ret;exact⟨Az HE.symm,An _ _⟩
 |true=>cases h2:EX B.floor 0 B.now with
 |false=>have HE:=Aj (show ZK B=false by unfold ZK No;rw[h2];simp);go_enter func8,ntmps8;go_wp2_with (go_at_call 21;refine(BV _ _ _ _).mono ?_;rintro e w1 ⟨rfl,rfl⟩;first|rw[h1]|rw[h2]);go_ret;exact⟨Az HE.symm,An _ _⟩
 |true=>have HN:=Aj (show No B.now B.floor=true by unfold No;rw[h1,h2];rfl);obtain⟨n1,n2,n3⟩:=O8 HN;have N1:=Aj n1;have N2:=Aj n2;have N3:=Aj n3;clear n1 n2 n3;have hA:=Aj (show BF (w.alloc (.cells (vB B a1 a2 a3 c1 c2 c3) 27)) lo hi B a1 a2 a3 from hin.below (An _ _) hhi);clear hin;go_enter func8,ntmps8;go_wp2_with (go_at_call 21;refine(BV _ _ _ _).mono ?_;rintro e w1 ⟨rfl,rfl⟩;first|rw[h1]|rw[h2]);refine(Up B.now B.floor B.on B.os a1 a2 a3 c1 B.hn c2 B.tn c3 _ lo hi Zd Za f4 hA.o).mono ?_;rintro e w1 ⟨rfl,hb1⟩;cases ho:LH B.on B.os B.now with
 |false=>have HE:=Aj (show ZK B=false by unfold ZK;rw[ho];simp);go_wp2;go_ret;exact⟨Az HE.symm,(An _ _).trans (hb1.mono Zc)⟩
 |true=>
 have HO:=Aj ho;have p0:=Au hb1 0;have p1:=Au hb1 1;have p2:=Au hb1 2;have p3:=Au hb1 3;have p4:=Au hb1 4;simp only[Ag,Af,Ae]at p0 p1 p2 p3 p4;have hz1:w.1.size<w1.1.size:=by have:=hb1.size;simp at this;omega
 have hA1:=Aj (hA.below hb1 Zd);have hB1:Below w.1.size w w1:=(An _ _).trans (hb1.mono Zc);clear hb1 hA ho;go_wp2_with fail;refine(Uk B.now B.floor B.on B.hn B.os B.hs a1 a2 a3 c1 c2 B.tn c3 w1 lo hi Za Za Za N1 N2 N3 f4 f5 hA1.o hA1.h).mono ?_;rintro e w2 ⟨rfl,hb2⟩;cases hh:El B.now B.floor B.on B.os B.hn B.hs with
 |false=>have HE:=Aj (show ZK B=false by unfold ZK;rw[hh];simp);go_wp2;go_ret;exact⟨Az HE.symm,hB1.trans (hb2.mono Za)⟩
 |true=>
 have HH:=Aj hh;have q0:=(hb2.cell (p:=⟨w.1.size,0,none⟩) hz1).trans p0;have q1:=(hb2.cell (p:=⟨w.1.size,1,none⟩) hz1).trans p1;have q2:=(hb2.cell (p:=⟨w.1.size,2,none⟩) hz1).trans p2;have q3:=(hb2.cell (p:=⟨w.1.size,3,none⟩) hz1).trans p3;have q4:=(hb2.cell (p:=⟨w.1.size,4,none⟩) hz1).trans p4;have hA2:=Aj (hA1.below hb2 Za);have hB2:Below w.1.size w w2:=hB1.trans (hb2.mono Za);have hz2:w.1.size<w2.1.size:=by have:=hb2.size;omega
 clear hb2 hA1 hh p0 p1 p2 p3 p4;go_wp2_with fail;refine(Ud B.now B.floor B.tn B.ts a1 a2 a3 B.on c1 B.hn c2 c3 w2 lo hi Za Za f6 hA2.t).mono ?_;rintro e w3 ⟨rfl,hb3⟩;have HE:=Aj (show ZK B=PE B.tn B.ts B.now by unfold ZK;rw[HN.out,HO.out,HH.out];rfl);clear q0 q1 q2 q3 q4;go_wp2;go_ret;exact⟨Az HE.symm,hB2.trans (hb3.mono Za)⟩
end Go.Proofs.YtnnjcenacidceaaGreat
