import Derived.Test.YtllmmkchokkaaaaGreatDoorPk16
import Derived.Test.YtllmmkchokkaaaaGreatDoorPk18
import Derived.Test.YtllmmkchokkaaaaGreatDoorPk17
import Derived.Test.YtllmmkchokkaaaaGreatDoorPk10
import Derived.Deep.Cut
import Derived.Deep.CutRange
set_option maxRecDepth 100000
set_option maxHeartbeats 4000000
namespace Go.Proofs.YtllmmkchokkaaaaGreatDoor
open Go.RowKit Go.Maps Go.Proofs.Tryz
def M4 (x:Nat->Ti)(now:Int)(i:Nat):Bool:=L4 (x i) now&&(i==0||D4 (x (i-1)).client (x i).client)
def L5 (n:Nat)(x:Nat->Ti)(now:Int):Bool:=decide (n<=50)&&Bi (M4 x now) n
theorem P3{P:Prop}(h:P:=by
  refine Ay Zc Zc ?_;repeat(go_big_quiet_step((first|(go_at_call 110;exact AY ((AZ _ _ hfc).mono (λe w' h=>⟨h.1,h.2▸Ak _ _⟩)))|(go_at_call 70;exact AY ((Cf _ _ _ _).mono (λe w' h=>⟨h.1,h.2▸Ak _ _⟩))))))
  refine wpQuiet_nil ?_;rintro w2 ⟨u,hu⟩;have hw2:Below (wr.1.size+1) (wr.alloc (.cells (vT (x (m+1))) 130)) w2:=by have h9:=hu▸u.prop;simpa using h9
  clear hu u;go_wp2;go_ret;exact⟨Av HE.symm,(hBw.alloc hBw.size _).trans (hw2.mono Za)⟩):P:=h
theorem PT{P:Prop}(h:P:=by
  refine Ay Zc Zc ?_;repeat(go_big_quiet_step((first|(go_at_call 110;exact AY ((AZ _ _ hfc).mono (λe w' h=>⟨h.1,h.2▸Ak _ _⟩)))|(go_at_call 70;exact AY ((Cf _ _ _ _).mono (λe w' h=>⟨h.1,h.2▸Ak _ _⟩))))))
  refine wpQuiet_nil ?_;rintro w2 ⟨u,hu⟩;have hw2:Below (wr.1.size+1) (wr.alloc (.cells (vT (x (k))) 130)) w2:=by have h9:=hu▸u.prop;simpa using h9
  clear hu u;go_wp2;go_ret;exact⟨Av HE.symm,(hBw.alloc hBw.size _).trans (hw2.mono Za)⟩):P:=h
theorem Sb (now floor:Int)(n:Nat)(x:Nat->Ti)(a1 a2 a3:OA)(n1 c1 n2 c2 c3:Nat)(w:World)(lo hi:Nat)(hhi:hi<=w.1.size)(hl:(n:Int)<=1099511627776)(hf:∀i,i<n->KA (x i))(hc:B8 w lo hi a3 n x):Calls prog 73 #[.agg #[.i now,.i floor,.l a1 n1 c1,.l a2 n2 c2,.l a3 n c3]] w λe w'=>e=.returned (.bool (L5 n x now))/\Below w.1.size w w':=by
 by_cases h50:(50:Int)<n;.have HE:=Ai (show L5 n x now=false by unfold L5;rw[decide_eq_false Za];rfl);go_enter func73,ntmps73;go_wp2;go_ret;exact⟨Av HE.symm,An _ _⟩
 go_enter func73,ntmps73;go_wp2;go_loopw[3](λi wr=>∃k:Nat,k<=n/\i=.i k/\(∀j,j<k->M4 x now j=true)/\Below (w.1.size+1) (w.alloc (.cells #[.i now,.i floor,.l a1 n1 c1,.l a2 n2 c2,.l a3 n c3] 35)) wr)(λi _=>n-(intOf i).toNat);case atStart=>exact⟨0,Ap _,rfl,λj hj=>absurd hj (Al _),Ak _ _⟩
 case round=>
  obtain⟨k,hk,rfl,hall,hb⟩:=hrel;have hBw:Below w.1.size w wr:=(An _ _).trans (hb.mono Za);have hsz:w.1.size+1<=wr.1.size:=by have:=hb.size;simpa using this
  have e0:wr.cell? ⟨w.1.size,0,none⟩=some (.i now):=(hb.cell (p:=⟨w.1.size,0,none⟩) Zg).trans Ze;have e4:wr.cell? ⟨w.1.size,4,none⟩=some (.slice a3 n c3):=(hb.cell (p:=⟨w.1.size,4,none⟩) Zg).trans Ze;by_cases hkn:k<n
  .obtain⟨b,off,rfl,hlo,hbh,hcx⟩:=hc k hkn;have hfc:=(hf k hkn).c;have hfp:=(hf k hkn).p;obtain⟨d0,d1,d2,d3,d4⟩:=hcx.below hBw Za;have hbw:b<wr.1.size:=Za;have hzw:w.1.size<wr.1.size:=Za;have HA:=Ai hall;have hne:Nonempty (GW (wr.alloc (.cells (vT (x k)) 130))):=⟨⟨_,Ak _ _⟩⟩;have z0:=Aj (W1:=wr.alloc (.cells (vT (x k)) 130)) (p:=⟨w.1.size,0,none⟩) ((Ar _ _ _ hzw).trans e0) Zd;have z4:=Aj (W1:=wr.alloc (.cells (vT (x k)) 130)) (p:=⟨w.1.size,4,none⟩) ((Ar _ _ _ hzw).trans e4) Zd;have x0:=Aj (W1:=wr.alloc (.cells (vT (x k)) 130)) (p:=⟨wr.1.size,0,none⟩) (v:=.s (x k).client) Ze Ze;have x1:=Aj (W1:=wr.alloc (.cells (vT (x k)) 130)) (p:=⟨wr.1.size,1,none⟩) (v:=.i (x k).num) Ze Ze;have x2:=Aj (W1:=wr.alloc (.cells (vT (x k)) 130)) (p:=⟨wr.1.size,2,none⟩) (v:=.s (x k).print) Ze Ze;have x3:=Aj (W1:=wr.alloc (.cells (vT (x k)) 130)) (p:=⟨wr.1.size,3,none⟩) (v:=.i (x k).code) Ze Ze;have x4:=Aj (W1:=wr.alloc (.cells (vT (x k)) 130)) (p:=⟨wr.1.size,4,none⟩) (v:=.i (x k).ver) Ze Ze;clear hall hcx;have hd9:=d0;go_wp2;clear d0 d1 d2 d3 d4 e0 e4;cases hn:Bv (x k).client with
   |false=>clear hc hf;have HE:=Ai (show L5 n x now=false by unfold L5;rw[A9 (p:=M4 x now) hkn (by simp[M4,L4,hn])];simp);exact PT
   |true=>
    rcases AW k with hk0|hpos
    .clear hc hf;have hg:decide ((0:Int)<(k:Int))=false:=decide_eq_false Za;have hg2:decide (0<k)=false:=decide_eq_false Za;have hkb:(k==0)=true:=by simp[hk0]
     clear hk0;cases h1:DU (x (k)).num 1 1000000 with
     |false=>have HE:=Ai (show L5 n x now=false by unfold L5;rw[A9 (p:=M4 x now) hkn (by simp[M4,L4,hn,hkb,h1])];simp);exact PT
     |true=>
     by_cases hp:(x (k)).print.size=8;case neg=>have hpz:(((x (k)).print.size:Int)==8)=false:=Zd;have hpn:(((x (k)).print.size:Int) !=8)=true:=Zd;have HE:=Ai (show L5 n x now=false by unfold L5;rw[A9 (p:=M4 x now) hkn (by simp[M4,L4,hn,hkb,h1,hp])];simp);exact PT
     have hpz:(((x (k)).print.size:Int)==8)=true:=Zd;have hpn:(((x (k)).print.size:Int) !=8)=false:=Zd;have vQ:=Ai hp;clear hp;cases h2:DU (x (k)).code 0 9 with
     |false=>have HE:=Ai (show L5 n x now=false by unfold L5;rw[A9 (p:=M4 x now) hkn (by simp[M4,L4,hn,hkb,h1,h2])];simp);exact PT
     |true=>cases h3:DU (x (k)).ver 0 now with
     |false=>have HE:=Ai (show L5 n x now=false by unfold L5;rw[A9 (p:=M4 x now) hkn (by simp[M4,L4,hn,hkb,h1,h2,h3])];simp);exact PT
     |true=>
      have HN:=Ai (show M4 x now (k)=true by simp[M4,L4,hn,hkb,h1,h2,h3,vQ.out]);refine Ay Zc Zc ?_;repeat(go_big_quiet_step((first|(go_at_call 110;exact AY ((AZ _ _ hfc).mono (λe w' h=>⟨h.1,h.2▸Ak _ _⟩)))|(go_at_call 70;exact AY ((Cf _ _ _ _).mono (λe w' h=>⟨h.1,h.2▸Ak _ _⟩))))))
      refine wpQuiet_nil ?_;rintro w2 ⟨u,hu⟩;have hw2:Below (wr.1.size+1) (wr.alloc (.cells (vT (x (k))) 130)) w2:=by have h9:=hu▸u.prop;simpa using h9
      clear hu u;go_wp2;go_roundw;case rel=>exact⟨k+1,Za,by go_num,λj hj=>(by
       rcases As j (k)with h3|h3;.exact HA j h3
       .have:j=k:=Za;subst this;exact HN),(hb.alloc hsz _).trans (hw2.mono Za)⟩
      case measure=>simp[intOf];omega
    .obtain⟨m,rfl⟩:∃m,k=m+1:=⟨k-1,Za⟩;obtain⟨b',off',e,_,_,hcy⟩:=hc m Za;cases e;have y0:=Aj (W1:=wr.alloc (.cells (vT (x (m+1))) 130)) (p:=⟨b,off+m*5,none⟩) ((Ar _ _ _ hbw).trans (hcy.below hBw Za).c0) Zd;have hg:decide ((0:Int)<((m+1:Nat):Int))=true:=decide_eq_true Za;clear hc hf hcy;cases hlt:D4 (x m).client (x (m+1)).client with
     |false=>have hlt':Op.bytesLess (x m).client.toList (x (m+1)).client.toList=false:=hlt;have HE:=Ai (show L5 n x now=false by unfold L5;rw[A9 (p:=M4 x now) hkn (by simp[M4,L4,hlt])];simp);exact P3
     |true=>have hlt':Op.bytesLess (x m).client.toList (x (m+1)).client.toList=true:=hlt;cases h1:DU (x (m+1)).num 1 1000000 with
     |false=>have HE:=Ai (show L5 n x now=false by unfold L5;rw[A9 (p:=M4 x now) hkn (by simp[M4,L4,hn,hlt,h1])];simp);exact P3
     |true=>
     by_cases hp:(x (m+1)).print.size=8;case neg=>have hpz:(((x (m+1)).print.size:Int)==8)=false:=Zd;have hpn:(((x (m+1)).print.size:Int) !=8)=true:=Zd;have HE:=Ai (show L5 n x now=false by unfold L5;rw[A9 (p:=M4 x now) hkn (by simp[M4,L4,hn,hlt,h1,hp])];simp);exact P3
     have hpz:(((x (m+1)).print.size:Int)==8)=true:=Zd;have hpn:(((x (m+1)).print.size:Int) !=8)=false:=Zd;have vQ:=Ai hp;clear hp;cases h2:DU (x (m+1)).code 0 9 with
     |false=>have HE:=Ai (show L5 n x now=false by unfold L5;rw[A9 (p:=M4 x now) hkn (by simp[M4,L4,hn,hlt,h1,h2])];simp);exact P3
     |true=>cases h3:DU (x (m+1)).ver 0 now with
     |false=>have HE:=Ai (show L5 n x now=false by unfold L5;rw[A9 (p:=M4 x now) hkn (by simp[M4,L4,hn,hlt,h1,h2,h3])];simp);exact P3
     |true=>
      have HN:=Ai (show M4 x now (m+1)=true by simp[M4,L4,hn,hlt,h1,h2,h3,vQ.out]);refine Ay Zc Zc ?_;repeat(go_big_quiet_step((first|(go_at_call 110;exact AY ((AZ _ _ hfc).mono (λe w' h=>⟨h.1,h.2▸Ak _ _⟩)))|(go_at_call 70;exact AY ((Cf _ _ _ _).mono (λe w' h=>⟨h.1,h.2▸Ak _ _⟩))))))
      refine wpQuiet_nil ?_;rintro w2 ⟨u,hu⟩;have hw2:Below (wr.1.size+1) (wr.alloc (.cells (vT (x (m+1))) 130)) w2:=by have h9:=hu▸u.prop;simpa using h9
      clear hu u;go_wp2;go_roundw;case rel=>exact⟨m+1+1,Za,by go_num,λj hj=>(by
       rcases As j (m+1)with h3|h3;.exact HA j h3
       .have:j=m+1:=Za;subst this;exact HN),(hb.alloc hsz _).trans (hw2.mono Za)⟩
      case measure=>simp[intOf];omega
  .have HE:=Ai (show L5 n x now=true by unfold L5;rw[decide_eq_true (show n<=50 by omega),Bm.2 (λi hi=>hall i Za)];rfl);clear hc hf hall;go_wp2;go_ret;exact⟨Av HE.symm,hBw⟩
def oA (gn en:Bool)(hn:Nat)(bo ve:Int):Bool:=if gn then en&&(decide (hn=0)&&!decide (bo=ve))else(!en||decide (0<hn))
def Gs (now floor:Int)(h:Nat->Ch)(i:Nat):Bool:=decide ((h i).ver=floor+1+i)&&(IA (h i) now&&Iz floor h i)
def Ds (now floor:Int)(m:Nat)(x:Nat->Ob)(n:Nat)(h:Nat->Ch):Bool:=decide (n<=200)&&(decide ((n:Int)=now-floor)&&(Bi (Gs now floor h) n&&O7 floor m x n h))
theorem Ts{x:Ob}{now:Int}(h:BM x now=true):x.born<=x.ver:=by unfold BM DU at h;simp at h;omega
theorem kX (ve:Int)(gn:Bool)(ki na:ByteArray)(bo:Int)(te:ByteArray)(en:Bool)(hn:Nat)(hs:Nat->ByteArray)(now:Int)(hp:BM ⟨ki,na,ve,bo,te,en,hn,hs⟩ now=true):IA ⟨ve,gn,⟨ki,na,ve,bo,te,en,hn,hs⟩⟩ now=oA gn en hn bo ve:=by have h1:=Ts hp;dsimp only at h1;unfold IA oA;simp only[hp];cases gn with
 |false=>simp[CX]
 |true=>
  have h2:decide (bo<ve)=!decide (bo=ve):=by
   by_cases h:bo=ve;.rw[decide_eq_true h,decide_eq_false Za];rfl
   .rw[decide_eq_false h,decide_eq_true Za];rfl
  simp[PU,h2]
theorem dH (n:Nat)(s:Nat->ByteArray)(m:Nat)(t:Nat->ByteArray):Vb n s m t=Vb m t n s:=by
 unfold Vb;by_cases h:n=m;.subst h;rw[show(λi=>decide (s i=t i))=λi=>decide (t i=s i)from funext λi=>by rw[decide_eq_decide];exact⟨Eq.symm,Eq.symm⟩]
 .rw[decide_eq_false h,decide_eq_false (λe=>h e.symm)];rfl
theorem Jf{α:Type}[DecidableEq α](a b:α):decide (a=b)=decide (b=a):=by rw[decide_eq_decide];exact⟨Eq.symm,Eq.symm⟩
theorem UN (x z:Ob):Cu x z=Cu z x:=by unfold Cu;rw[Jf x.kind,Jf x.name,Jf x.ver,Jf x.born,Jf x.text,Jf x.ending,dH]
theorem iK{P:Prop}(h:P:=by
  refine Ay Zc Zc ?_;repeat(go_big_quiet_step((go_at_call 129;go_must(exact AY (hK _)))))
  refine wpQuiet_nil ?_;rintro w4 ⟨u,hu⟩;have hw4:Below w3.1.size w3 w4:=hu▸u.prop;clear hu u hne;have hB4:=hB3.trans (hw4.mono Za);clear x0 x1 x2 x3 x4 x5 x6 x7 x8 xr3 xv3 y5 y1 hK;go_wp2;go_ret;exact⟨Av HE.symm,(An _ _).trans (hB4.mono Za)⟩):P:=h
theorem Vh{P:Prop}(h:P:=by
  go_wp2;go_roundw;case rel=>exact⟨k+1,Za,by go_num,λj hj=>(by
   rcases As j k with h3|h3;.exact HA j h3
   .have:j=k:=Za;subst this;exact HN),hB4⟩
  case measure=>simp[intOf];omega):P:=h
theorem fG{P:Prop}(h:P:=by
  refine Ay Zc Zc ?_;repeat(go_big_quiet_step((go_at_call 130;go_must(exact AY (hSU _)))))
  refine wpQuiet_nil ?_;rintro w2 ⟨u,hu⟩;have hw2:Below w1.1.size w1 w2:=hu▸u.prop;clear hu u hne;have hB2:=hB1.trans (hw2.mono Za);clear u1 u2 u3 v1 hSU xx0 xx1 xx2 xx3 xx4 xx5 xx6 y2 y3 y4 y5 y6 y7 y8;go_wp2;go_ret;exact⟨Av HE.symm,(An _ _).trans (hB2.mono Za)⟩):P:=h
theorem cF{P:Prop}(h:P:=by
  refine Ay Zc Zc ?_;repeat(go_big_quiet_step((go_at_call 129;go_must(exact AY (hK _)))))
  refine wpQuiet_nil ?_;rintro w4 ⟨u,hu⟩;have hw4:Below w3.1.size w3 w4:=hu▸u.prop;clear hu u hne;have hB4:=hB3.trans (hw4.mono Za);clear x0 x1 x2 x3 x4 x5 x6 x7 x8 xr3 xv3 y5 y1 hK;exact Vh):P:=h
theorem ZW{P:Prop}(h:P:=by rw[hg]at f1;have y1:=Aj f1 Zj;have HE:=Ai (show Ds now floor m x n h=false by unfold Ds;rw[A9 (p:=Gs now floor h) hkn (by unfold Gs;rw[nR.out];simp[LA,hcr,hg])];simp);clear hcr hg f1;exact iK):P:=h
theorem iF{P:Prop}(h:P:=by
  go_wp2;go_roundw;case rel=>exact⟨k+1,Za,by go_num,hB2,λj hj=>(by
   rcases As j k with h3|h3;.exact HA j h3
   .have:j=k:=Za;subst this;exact HN)⟩
  case measure=>simp[intOf];omega):P:=h
theorem Sn (now floor:Int)(m n:Nat)(x:Nat->Ob)(h:Nat->Ch)(a1 a2 a3:OA)(c1 c2 n3 c3:Nat)(w:World)(lo hi:Nat)(hhi:hi<=w.1.size)(hm:(m:Int)<=1099511627776)(hl:(n:Int)<=1099511627776)(hfl:0<=floor)(hno:floor<=now)(hnm:now<=1000000)(hx:∀i,i<m->CW (x i))(hf:∀i,i<n->CW (h i).ob)(hco:BH w lo hi a1 m x)(hc:Dp w lo hi a2 n h):Calls prog 72 #[.agg #[.i now,.i floor,.l a1 m c1,.l a2 n c2,.l a3 n3 c3]] w λe w'=>e=.returned (.bool (Ds now floor m x n h))/\Below w.1.size w w':=by
 by_cases h200:(200:Int)<n;.have HE:=Ai (show Ds now floor m x n h=false by unfold Ds;rw[decide_eq_false Za];rfl);go_enter func72,ntmps72;go_wp2;go_ret;exact⟨Av HE.symm,An _ _⟩
 by_cases hnf:(n:Int)=now-floor;case neg=>have HE:=Ai (show Ds now floor m x n h=false by unfold Ds;rw[decide_eq_false hnf];simp);go_enter func72,ntmps72;go_wp2;go_ret;exact⟨Av HE.symm,An _ _⟩
 have wW:=Ai hnf;have hnf2:now-floor=(n:Int):=Za;clear hnf;go_enter func72,ntmps72;go_wp2;clear hnf2;go_loopw[3](λi wr=>∃k:Nat,k<=n/\i=.i k/\(∀j,j<k->Gs now floor h j=true)/\Below (w.1.size+1) (w.alloc (.cells #[.i now,.i floor,.l a1 m c1,.l a2 n c2,.l a3 n3 c3] 35)) wr)(λi _=>n-(intOf i).toNat);case atStart=>exact⟨0,Ap _,rfl,λj hj=>absurd hj (Al _),Ak _ _⟩
 case round=>
  obtain⟨k,hk,rfl,hall,hb⟩:=hrel;have hBw:Below w.1.size w wr:=(An _ _).trans (hb.mono Za);have hsz:w.1.size+1<=wr.1.size:=by have:=hb.size;simpa using this
  have hwz:w.1.size<wr.1.size:=Za;have o0:=Au L6 0;have o1:=Au L6 1;have o2:=Au L6 2;have o3:=Au L6 3;simp only[Ah,Ad,Ab]at o0 o1 o2 o3;by_cases hkn:k<n
  .obtain⟨b,off,ah,ch,rfl,hlo,hbh,hcx,hsx⟩:=hc k hkn;have hfk:=hf k hkn;have hcx:=hcx.below hBw Za;have hs1:=hsx.below hBw hhi;have HA:=Ai hall;have HF:=Ai hf;have uD:=Ai hco;have HX:=Ai hx;have Qf:=Ai hc;obtain⟨c,hce⟩:∃c,h k=c:=⟨_,rfl⟩;rw[hce]at hcx hfk hs1;have jT:=Ai hce;obtain⟨ve,gn,ki,na,ov,bo,te,en,hn,hs⟩:=c;obtain⟨d0,d1,d2,d3,d4,d5,d6,d7,d8⟩:=hcx;dsimp only at d0 d1 d2 d3 d4 d5 d6 d7 d8 hs1 hfk;clear hall hc hf hsx hco hx hce;have hkz:(k:Int)+1<=n:=Za;by_cases hv:ve=floor+1+k;case neg=>have HE:=Ai (show Ds now floor m x n h=false by unfold Ds;rw[A9 (p:=Gs now floor h) hkn (by unfold Gs;rw[jT.out,decide_eq_false hv];rfl)];simp);go_wp2;go_ret;exact⟨Av HE.symm,(hBw.alloc hBw.size _).alloc Zd _⟩
   subst hv;by_cases hov:ov=floor+1+k;case neg=>have HE:=Ai (show Ds now floor m x n h=false by unfold Ds;rw[A9 (p:=Gs now floor h) hkn (by unfold Gs IA;rw[jT.out];simp[hov])];simp);go_wp2;go_ret;exact⟨Av HE.symm,(hBw.alloc hBw.size _).alloc Zd _⟩
   subst hov;have hC:=QV ⟨ki,na,floor+1+k,bo,te,en,hn,hs⟩ now ah ch ((wr.alloc (.cells #[.i (floor+1+k),.bool gn,.s ki,.s na,.i (floor+1+k),.i bo,.s te,.bool en,.l ah hn ch] 120)).alloc (.cells #[.s ki,.s na,.i (floor+1+k),.i bo,.s te,.bool en,.l ah hn ch] 118)) lo hi Zd hfk ((hs1.alloc Za _).alloc Zd _);dsimp only[vO]at hC;cases hp:BM ⟨ki,na,floor+1+k,bo,te,en,hn,hs⟩ now with
   |false=>have HE:=Ai (show Ds now floor m x n h=false by unfold Ds;rw[A9 (p:=Gs now floor h) hkn (by unfold Gs IA;rw[jT.out];simp[hp])];simp);go_wp2_with fail;refine hC.mono ?_;rintro e w2 ⟨rfl,hb2⟩;rw[hp];clear hC;go_wp2;go_ret;exact⟨Av HE.symm,((hBw.alloc hBw.size _).alloc Zd _).trans (hb2.mono Zd)⟩
   |true=>
   have uC:=Ai (kX (floor+1+k) gn ki na bo te en hn hs now hp);have hnn:(hn:Int)<=140737488355328:=by have:=hfk.h;simpa using(by dsimp only at this;omega)
   go_upto_region 10 with(go_at_call 126;refine hC.mono ?_;rintro e w2 ⟨rfl,hb2⟩;rw[hp];clear hC);have hB2:Below (w.1.size+1) (w.alloc (.cells #[.i now,.i floor,.l a1 m c1,.l (some ⟨b,off,none⟩) n c2,.l a3 n3 c3] 35)) w2:=((hb.alloc hsz _).alloc Zd _).trans (hb2.mono Zd);have hz2:wr.1.size+2<=w2.1.size:=by have:=hb2.size;simp at this;omega
   have s0:=AU hb2 0;have s1:=AU hb2 1;have s2:=AU hb2 2;have s3:=AU hb2 3;have s4:=AU hb2 4;have s5:=AU hb2 5;have s6:=AU hb2 6;have s7:=AU hb2 7;have s8:=AU hb2 8;have t0:=Au hb2 0;have t1:=Au hb2 1;have t2:=Au hb2 2;have t3:=Au hb2 3;have t4:=Au hb2 4;have t5:=Au hb2 5;have t6:=Au hb2 6;simp only[Ah,Ad,Ab,AE]at s0 s1 s2 s3 s4 s5 s6 s7 s8 t0 t1 t2 t3 t4 t5 t6;have o0:=Au (by simpa using hB2) 0;have o1:=Au (by simpa using hB2) 1;have o2:=Au (by simpa using hB2) 2;have o3:=Au (by simpa using hB2) 3;simp only[Ah,Ad,Ab]at o0 o1 o2 o3;clear hb2 d0 d1 d2 d3 d4 d5 d6 d7 d8 hp;go_cut[98]from 28 to 141 (λs98 wx=>s98=.bool (!oA gn en hn bo (floor+1+k))/\w2=wx);case first=>cases gn with
    |true=>cases en with
     |false=>go_wp2_with fail;go_meet;exact⟨rfl,rfl⟩
     |true=>
      by_cases h0:hn=0
      .subst h0;by_cases h1:bo=floor+1+k
       .subst h1;go_wp2_with fail;go_meet;exact⟨congrArg Value.bool (by simp[oA]),rfl⟩
       .have h1b:(bo==floor+1+k)=false:=by simp[h1]
        have HH:=Ai h1;clear h1;go_wp2_with fail;go_meet;exact⟨congrArg Value.bool (by simp[oA,HH.out]),rfl⟩
      .have h2:decide ((0:Int)<(hn:Int))=true:=decide_eq_true Za;have h3:(0:Int)<hn:=Za;have HH:=Ai h0;clear h0;go_wp2_with fail;go_meet;exact⟨congrArg Value.bool (by simp[oA,HH.out]),rfl⟩
    |false=>cases en with
     |false=>go_wp2_with fail;go_meet;exact⟨rfl,rfl⟩
     |true=>
      by_cases h0:hn=0;.subst h0;go_wp2_with fail;go_meet;exact⟨congrArg Value.bool (by simp[oA]),rfl⟩
      .have h2:((hn:Int)==0)=false:=Zd;have HH:=Ai h0;clear h0;go_wp2_with fail;go_meet;exact⟨congrArg Value.bool (by have:=HH.out;simp[oA];omega),rfl⟩
   case rest=>obtain⟨rfl,rfl⟩:=hcut;cases hgb:oA gn en hn bo (floor+1+k)with
   |false=>have HE:=Ai (show Ds now floor m x n h=false by unfold Ds;rw[A9 (p:=Gs now floor h) hkn (by unfold Gs;rw[jT.out,uC.out,hgb];simp)];simp);go_wp2;go_ret;exact⟨Av HE.symm,(An _ _).trans (hB2.mono Za)⟩
   |true=>have HG:=Ai (uC.trans hgb);clear hgb;have hBW2:Below w.1.size w w2:=(An _ _).trans (hB2.mono Za);have hL:=LR n k h ⟨ki,na,floor+1+k,bo,te,en,hn,hs⟩ (some ⟨b,off,none⟩) ah c2 ch w2 lo hi Za hl Za (Qf.below hBW2 hhi);dsimp only[vO]at hL;have hK:=λw=>Tk ⟨floor+1+k,gn,⟨ki,na,floor+1+k,bo,te,en,hn,hs⟩⟩ ah ch w;dsimp only at hK;cases hfd:QE h ki na k with
   |none=>
    have Qv:Hj h ⟨ki,na,floor+1+k,bo,te,en,hn,hs⟩ k=-1:=by unfold Hj;dsimp only;rw[hfd]
    have nR:=Ai (show Iz floor h k=Oo ⟨floor+1+k,gn,⟨ki,na,floor+1+k,bo,te,en,hn,hs⟩⟩ floor by unfold Iz;rw[jT.out];dsimp only;rw[hfd]);rw[Qv]at hL;clear Qv hfd;go_wp2_with fail;refine hL.mono ?_;rintro e w3 ⟨rfl,hb3⟩;clear hL;have q0:=(hb3.cell (p:=⟨wr.1.size,0,none⟩) Zl).trans s0;have q1:=(hb3.cell (p:=⟨wr.1.size,1,none⟩) Zl).trans s1;have q2:=(hb3.cell (p:=⟨wr.1.size,2,none⟩) Zl).trans s2;have q3:=(hb3.cell (p:=⟨wr.1.size,3,none⟩) Zl).trans s3;have q4:=(hb3.cell (p:=⟨wr.1.size,4,none⟩) Zl).trans s4;have q5:=(hb3.cell (p:=⟨wr.1.size,5,none⟩) Zl).trans s5;have q6:=(hb3.cell (p:=⟨wr.1.size,6,none⟩) Zl).trans s6;have q7:=(hb3.cell (p:=⟨wr.1.size,7,none⟩) Zl).trans s7;have q8:=(hb3.cell (p:=⟨wr.1.size,8,none⟩) Zl).trans s8;have r3:=(hb3.cell (p:=⟨wr.1.size+1,3,none⟩) (by show wr.1.size+1<_;omega)).trans t3;have v1:=(hb3.cell (p:=⟨w.1.size,1,none⟩) Zg).trans o1;have hz3:wr.1.size+2<=w3.1.size:=by have:=hb3.size;omega
    have hB3:=hB2.trans (hb3.mono Za);clear s0 s1 s2 s3 s4 s5 s6 s7 s8 t0 t1 t2 t3 t4 t5 t6 o0 o1 o2 o3 hb3;go_wp2_with fail;refine(hK _).mono ?_;rintro e w4 ⟨rfl,hb4⟩;clear hK;have g3:=(hb4.cell (p:=⟨wr.1.size+1,3,none⟩) (by show wr.1.size+1<_;omega)).trans r3;have f1:=(hb4.cell (p:=⟨w.1.size,1,none⟩) Zg).trans v1;have hB4:=hB3.trans (hb4.mono Za);clear q0 q1 q2 q3 q4 q5 q6 q7 q8 r3 v1 hb4;cases hcr:Oi ⟨floor+1+k,gn,⟨ki,na,floor+1+k,bo,te,en,hn,hs⟩⟩with
    |true=>have HN:=Ai (show Gs now floor h k=true by unfold Gs;rw[nR.out,jT.out,HG.out];simp[Oo,hcr]);exact Vh
    |false=>
     by_cases hbf:floor<bo;.have HE:=Ai (show Ds now floor m x n h=false by unfold Ds;rw[A9 (p:=Gs now floor h) hkn (by unfold Gs;rw[nR.out];have:¬bo<=floor:=Za;simp[Oo,hcr,this])];simp);go_wp2;go_ret;exact⟨Av HE.symm,(An _ _).trans (hB4.mono Za)⟩
     .have HN:=Ai (show Gs now floor h k=true by unfold Gs;rw[nR.out,jT.out,HG.out];have:bo<=floor:=Za;simp[Oo,this]);exact Vh
   |some i=>
    have hin:=(LH hfd).1;have Qv:Hj h ⟨ki,na,floor+1+k,bo,te,en,hn,hs⟩ k=i:=by unfold Hj;dsimp only;rw[hfd]
    have nR:=Ai (show Iz floor h k=LA (h i) ⟨floor+1+k,gn,⟨ki,na,floor+1+k,bo,te,en,hn,hs⟩⟩by unfold Iz;rw[jT.out];dsimp only;rw[hfd]);rw[Qv]at hL;clear Qv hfd;obtain⟨b',off',ah',ch',e,hlo',hbh',hcy,hsy⟩:=Qf i Za;cases e;have hiz:(i:Int)+1<=n:=Za;have hi0:decide ((i:Int)<0)=false:=decide_eq_false Za;go_wp2_with fail;refine hL.mono ?_;rintro e w3 ⟨rfl,hb3⟩;clear hL;have hz3:wr.1.size+2<=w3.1.size:=by have:=hb3.size;omega
    have q0:=(hb3.cell (p:=⟨wr.1.size,0,none⟩) Zl).trans s0;have q1:=(hb3.cell (p:=⟨wr.1.size,1,none⟩) Zl).trans s1;have q2:=(hb3.cell (p:=⟨wr.1.size,2,none⟩) Zl).trans s2;have q3:=(hb3.cell (p:=⟨wr.1.size,3,none⟩) Zl).trans s3;have q4:=(hb3.cell (p:=⟨wr.1.size,4,none⟩) Zl).trans s4;have q5:=(hb3.cell (p:=⟨wr.1.size,5,none⟩) Zl).trans s5;have q6:=(hb3.cell (p:=⟨wr.1.size,6,none⟩) Zl).trans s6;have q7:=(hb3.cell (p:=⟨wr.1.size,7,none⟩) Zl).trans s7;have q8:=(hb3.cell (p:=⟨wr.1.size,8,none⟩) Zl).trans s8;have r3:=(hb3.cell (p:=⟨wr.1.size+1,3,none⟩) (by show wr.1.size+1<_;omega)).trans t3;have v3:=(hb3.cell (p:=⟨w.1.size,3,none⟩) Zg).trans o3;have hB3:=hB2.trans (hb3.mono Za);have hBw3:Below w.1.size w w3:=(An _ _).trans (hB3.mono Za);obtain⟨f0,f1,f2,f3,f4,f5,f6,f7,f8⟩:=hcy.below hBw3 Za;clear s0 s1 s2 s3 s4 s5 s6 s7 s8 t0 t1 t2 t3 t4 t5 t6 o0 o1 o2 o3 hb3 hcy hsy;go_wp2;have x0:=Aj q0 Zl;have x1:=Aj q1 Zl;have x2:=Aj q2 Zl;have x3:=Aj q3 Zl;have x4:=Aj q4 Zl;have x5:=Aj q5 Zl;have x6:=Aj q6 Zl;have x7:=Aj q7 Zl;have x8:=Aj q8 Zl;have xr3:=Aj r3 (by show wr.1.size+1<_;omega);have xv3:=Aj v3 Zg;have y5:=Aj f5 Zj;have hne:Nonempty (GW w3):=⟨⟨_,Ak _ _⟩⟩;obtain⟨pv,hpb⟩:∃pv,(h i).ob.born=pv:=⟨_,rfl⟩;rw[hpb]at y5;have nQ:=Ai hpb;clear hpb;clear q0 q1 q2 q3 q4 q5 q6 q7 q8 r3 v3 f0 f2 f3 f4 f5 f6 f7 f8;cases hcr:Oi ⟨floor+1+k,gn,⟨ki,na,floor+1+k,bo,te,en,hn,hs⟩⟩with
    |true=>rw[hcr]at hK;cases hg:(h i).gone with
     |true=>rw[hg]at f1;have y1:=Aj f1 Zj;have HN:=Ai (show Gs now floor h k=true by unfold Gs;rw[nR.out,jT.out,HG.out];simp[LA,hcr,hg]);clear hcr hg f1;exact cF
     |false=>exact ZW
    |false=>rw[hcr]at hK;cases hg:(h i).gone with
     |true=>exact ZW
     |false=>
      rw[hg]at f1;have y1:=Aj f1 Zj;by_cases hq:pv=bo
      .have hqb:(bo !=pv)=false:=by simp[hq]
       have HN:=Ai (show Gs now floor h k=true by unfold Gs;rw[nR.out,jT.out,HG.out];simp[LA,hcr,hg,nQ.out,hq]);clear hcr hg f1 hq;exact cF
      .have hqb:(bo !=pv)=true:=by simp;exact λe=>hq e.symm
       have HE:=Ai (show Ds now floor m x n h=false by unfold Ds;rw[A9 (p:=Gs now floor h) hkn (by unfold Gs;rw[nR.out];simp[LA,hcr,hg,nQ.out,hq])];simp);clear hcr hg f1 hq;exact iK
  .have:n=k:=Za;subst this;have Oz:=Ai (show Bi (Gs now floor h) n=true from Bm.2 hall);clear hall;go_wp2;clear o0 o1 o2 o3;obtain⟨W,hW⟩:∃W,W=wr:=⟨wr,rfl⟩;subst hW;go_loopw[7](λi wq=>∃k:Nat,k<=m/\i=.i k/\Below (w.1.size+1) (w.alloc (.cells #[.i now,.i floor,.l a1 m c1,.l a2 n c2,.l a3 n3 c3] 35)) wq/\∀j,j<k->QT floor x n h j=true)(λi _=>m-(intOf i).toNat);case atStart=>exact⟨0,Ap _,rfl,hb,λj hj=>absurd hj (Al _)⟩
   case round=>
    obtain⟨k,hk2,rfl,hb,hall⟩:=hrel;have hBw:Below w.1.size w wr:=(An _ _).trans (hb.mono Za);have hsz:w.1.size+1<=wr.1.size:=by have:=hb.size;simpa using this
    have hwz:w.1.size<wr.1.size:=Za;have hhw:hi<=wr.1.size:=Za;have o0:=Au L6 0;have o1:=Au L6 1;have o2:=Au L6 2;have o3:=Au L6 3;have o4:=Au L6 4;simp only[Ah,Ad,Ab]at o0 o1 o2 o3 o4;by_cases hkm:k<m
    .obtain⟨b,off,ah,ch,rfl,hlo,hbh,hcx,hsx⟩:=hco k hkm;have hxk:=hx k hkm;have hxh:((x k).hn:Int)<=140737488355328:=by have:=hxk.h;omega
     obtain⟨d0,d1,d2,d3,d4,d5,d6⟩:=hcx.below hBw Za;have HA:=Ai hall;have HC:=Ai hc;have HF:=Ai hf;have HS:=Ai hsx;have hcu:∀u:GW wr,Dp u.val lo hi a2 n h:=λu=>hc.below (hBw.trans (u.prop.mono Za)) hhi;have hhu:∀u:GW wr,hi<=u.val.1.size:=λu=>AA hhw u.prop.size;have hLU:∀u:GW wr,Calls prog 128 #[.l a2 n c2,.agg (vO (x k) ah ch),.i n] u.val λe w'=>e=.returned (.i (Hj h (x k) n))/\Below u.val.1.size u.val w':=λu=>LR n n h (x k) a2 ah c2 ch _ lo hi (hhu u) hl Bj (hcu u);clear hall hc hf hco hx hcx hsx hcu hhu;have z2:=Aj o2 Zg;have z3:=Aj o3 Zg;have x0:=Aj d0 Zj;have x1:=Aj d1 Zj;have x2:=Aj d2 Zj;have x3:=Aj d3 Zj;have x4:=Aj d4 Zj;have x5:=Aj d5 Zj;have x6:=Aj d6 Zj;have hne:Nonempty (GW wr):=⟨⟨_,Ak _ _⟩⟩;go_wp2;cases hfd:QE h (x k).kind (x k).name n with
     |none=>
      have Qv:Hj h (x k) n=-1:=by unfold Hj;rw[hfd]
      have HL:=Ai (show QT floor x n h k=decide ((x k).ver<=floor)by unfold QT;rw[hfd]);simp only[Qv]at hLU;clear Qv hfd;refine Ay Zc Zc ?_;repeat(go_big_quiet_step((go_at_call 128;go_must(exact AY (hLU _)))))
      refine wpQuiet_nil ?_;rintro w1 ⟨u,hu⟩;have hw1:Below wr.1.size wr w1:=hu▸u.prop;clear hu u hne hLU z2 z3 x0 x1 x2 x3 x4 x5 x6;have hB1:=hb.trans (hw1.mono Za);have p1:=(hw1.cell (p:=⟨w.1.size,1,none⟩) Zg).trans o1;have p2:=(hw1.cell (p:=⟨w.1.size,2,none⟩) Zg).trans o2;have p3:=(hw1.cell (p:=⟨w.1.size,3,none⟩) Zg).trans o3;have e2:=(hw1.cell (p:=⟨b,off+k*7+2,none⟩) Zj).trans d2;have hz1:wr.1.size<=w1.1.size:=hw1.size;have u1:=Aj p1 Zg;have u2:=Aj p2 Zg;have u3:=Aj p3 Zg;have y2:=Aj e2 Zj;have hne:Nonempty (GW w1):=⟨⟨_,Ak _ _⟩⟩;clear d0 d1 d2 d3 d4 d5 d6 o0 o1 o2 o3 o4 p1 p2 p3 e2 hw1;go_wp2;by_cases hv:(x k).ver<=floor
      .have HN:=Ai (show QT floor x n h k=true by rw[HL.out];exact decide_eq_true hv);have hd:decide (floor<(x k).ver)=false:=decide_eq_false Za;refine Ay Zc Zc ?_;repeat(go_big_quiet_step(fail))
       refine wpQuiet_nil ?_;rintro w2 ⟨u,hu⟩;have hw2:Below w1.1.size w1 w2:=hu▸u.prop;clear hu u hne;have hB2:=hB1.trans (hw2.mono Za);clear u1 u2 u3 y2;exact iF
      .have HE:=Ai (show Ds now floor m x n h=false by unfold Ds O7;rw[A9 (p:=QT floor x n h) hkm (HL.trans (decide_eq_false hv))];simp);have hd:decide (floor<(x k).ver)=true:=decide_eq_true Za;refine Ay Zc Zc ?_;repeat(go_big_quiet_step(fail))
       refine wpQuiet_nil ?_;rintro w2 ⟨u,hu⟩;have hw2:Below w1.1.size w1 w2:=hu▸u.prop;clear hu u hne;have hB2:=hB1.trans (hw2.mono Za);clear u1 u2 u3 y2;go_wp2;go_ret;exact⟨Av HE.symm,(An _ _).trans (hB2.mono Za)⟩
     |some j=>
      have hjn:=(LH hfd).1;have Qv:Hj h (x k) n=j:=by unfold Hj;rw[hfd]
      have HL:=Ai (show QT floor x n h k=(!(h j).gone&&Cu (h j).ob (x k))by unfold QT;rw[hfd,UN (h j).ob]);simp only[Qv]at hLU;clear Qv hfd;obtain⟨b',off',ah',ch',rfl,hlo',hbh',hcy,hsy⟩:=HC j hjn;have hjh:((h j).ob.hn:Int)<=140737488355328:=by have:=(HF j hjn).h;omega
      have uP:=Ai hsy;clear hsy;have hjz:(j:Int)+1<=n:=Za;have hj0:decide ((0:Int)<=(j:Int))=true:=decide_eq_true Za;have hj1:decide ((j:Int)<0)=false:=decide_eq_false Za;refine Ay Zc Zc ?_;repeat(go_big_quiet_step((go_at_call 128;go_must(exact AY (hLU _)))))
      refine wpQuiet_nil ?_;rintro w1 ⟨u,hu⟩;have hw1:Below wr.1.size wr w1:=hu▸u.prop;clear hu u hne hLU z2 z3 x0 x1 x2 x3 x4 x5 x6;have hB1:=hb.trans (hw1.mono Za);have hBw1:Below w.1.size w w1:=(An _ _).trans (hB1.mono Za);have hz1:wr.1.size<=w1.1.size:=hw1.size;have p1:=(hw1.cell (p:=⟨w.1.size,1,none⟩) Zg).trans o1;have p2:=(hw1.cell (p:=⟨w.1.size,2,none⟩) Zg).trans o2;have p3:=(hw1.cell (p:=⟨w.1.size,3,none⟩) Zg).trans o3;have u1:=Aj p1 Zg;have u2:=Aj p2 Zg;have u3:=Aj p3 Zg;have e0:=(hw1.cell (p:=⟨b,off+k*7,none⟩) Zj).trans d0;have e1:=(hw1.cell (p:=⟨b,off+k*7+1,none⟩) Zj).trans d1;have e2:=(hw1.cell (p:=⟨b,off+k*7+2,none⟩) Zj).trans d2;have e3:=(hw1.cell (p:=⟨b,off+k*7+3,none⟩) Zj).trans d3;have e4:=(hw1.cell (p:=⟨b,off+k*7+4,none⟩) Zj).trans d4;have e5:=(hw1.cell (p:=⟨b,off+k*7+5,none⟩) Zj).trans d5;have e6:=(hw1.cell (p:=⟨b,off+k*7+6,none⟩) Zj).trans d6;have xx0:=Aj e0 Zj;have xx1:=Aj e1 Zj;have xx2:=Aj e2 Zj;have xx3:=Aj e3 Zj;have xx4:=Aj e4 Zj;have xx5:=Aj e5 Zj;have xx6:=Aj e6 Zj;obtain⟨f0,f1,f2,f3,f4,f5,f6,f7,f8⟩:=hcy.below hBw1 Za;have y2:=Aj f2 Sy;have y3:=Aj f3 Sy;have y4:=Aj f4 Sy;have y5:=Aj f5 Sy;have y6:=Aj f6 Sy;have y7:=Aj f7 Sy;have y8:=Aj f8 Sy;have hne:Nonempty (GW w1):=⟨⟨_,Ak _ _⟩⟩;have hhw1:hi<=w1.1.size:=Za;have hhu:∀u:GW w1,hi<=u.val.1.size:=λu=>AA hhw1 u.prop.size;have hu1:∀u:GW w1,AB u.val lo hi ah (x k).hn (x k).hs:=λu=>HS.below (hBw1.trans (u.prop.mono Za)) hhi;have hu2:∀u:GW w1,AB u.val lo hi ah' (h j).ob.hn (h j).ob.hs:=λu=>uP.below (hBw1.trans (u.prop.mono Za)) hhi;have hSU:∀u:GW w1,Calls prog 130 #[.agg (vO (h j).ob ah' ch'),.agg (vO (x k) ah ch)] u.val λe w'=>e=.returned (.bool (Cu (h j).ob (x k)))/\Below u.val.1.size u.val w':=λu=>VC (h j).ob (x k) ah' ah ch' ch _ lo hi (hhu u) hjh hxh (hu2 u) (hu1 u);clear d0 d1 d2 d3 d4 d5 d6 o0 o1 o2 o3 o4 p1 p2 p3 e0 e1 e2 e3 e4 e5 e6 hw1 hcy f0 f2 f3 f4 f5 f6 f7 f8 hhu hu1 hu2;go_wp2;cases hg:(h j).gone with
      |true=>have HE:=Ai (show Ds now floor m x n h=false by unfold Ds O7;rw[A9 (p:=QT floor x n h) hkm (HL.trans (by rw[hg];rfl))];simp);rw[hg]at f1;have v1:=Aj f1 Sy;clear hg f1;exact fG
      |false=>rw[hg]at f1;have v1:=Aj f1 Sy;have oW:=Ai (show QT floor x n h k=Cu (h j).ob (x k)by rw[HL.out,hg];rfl);clear hg f1;cases hsm:Cu (h j).ob (x k)with
       |false=>have HE:=Ai (show Ds now floor m x n h=false by unfold Ds O7;rw[A9 (p:=QT floor x n h) hkm (oW.trans hsm)];simp);simp only[hsm]at hSU;clear hsm;exact fG
       |true=>
        have HN:=Ai (oW.trans hsm);simp only[hsm]at hSU;clear hsm;refine Ay Zc Zc ?_;repeat(go_big_quiet_step((go_at_call 130;go_must(exact AY (hSU _)))))
        refine wpQuiet_nil ?_;rintro w2 ⟨u,hu⟩;have hw2:Below w1.1.size w1 w2:=hu▸u.prop;clear hu u hne;have hB2:=hB1.trans (hw2.mono Za);clear u1 u2 u3 v1 hSU xx0 xx1 xx2 xx3 xx4 xx5 xx6 y2 y3 y4 y5 y6 y7 y8;exact iF
    .have:m=k:=Za;subst this;have Um:=Ai (show Bi (QT floor x n h) m=true from Bm.2 hall);clear hall;go_wp2;clear o0 o1 o2 o3 o4;obtain⟨V,hV⟩:∃V,V=wr:=⟨wr,rfl⟩;subst hV;go_loopw[9](λi wq=>∃k:Nat,k<=n/\i=.i k/\Below (w.1.size+1) (w.alloc (.cells #[.i now,.i floor,.l a1 m c1,.l a2 n c2,.l a3 n3 c3] 35)) wq/\∀j,j<k->Qd m x n h j=true)(λi _=>n-(intOf i).toNat);case atStart=>exact⟨0,Ap _,rfl,hb,λj hj=>absurd hj (Al _)⟩
     case round=>
      obtain⟨k,hk2,rfl,hb,hall⟩:=hrel;have hBw:Below w.1.size w wr:=(An _ _).trans (hb.mono Za);have hsz:w.1.size+1<=wr.1.size:=by have:=hb.size;simpa using this
      have hwz:w.1.size<wr.1.size:=Za;have hhw:hi<=wr.1.size:=Za;have o0:=Au L6 0;have o1:=Au L6 1;have o2:=Au L6 2;have o3:=Au L6 3;have o4:=Au L6 4;simp only[Ah,Ad,Ab]at o0 o1 o2 o3 o4;by_cases hkn2:k<n
      .obtain⟨b,off,ah,ch,rfl,hlo,hbh,hcx,hsx⟩:=hc k hkn2;obtain⟨d0,d1,d2,d3,d4,d5,d6,d7,d8⟩:=hcx.below hBw Za;obtain⟨i',hli⟩:=TA (h:=h) hkn2;have Qv:Hj h (h k).ob n=i':=by unfold Hj;rw[hli]
       have yF:=Ai hli;have hin:=(LH hli).1;have hL:=LR n n h (h k).ob (some ⟨b,off,none⟩) ah c2 ch (wr.alloc (.cells #[.i (h k).ver,.bool (h k).gone,.s (h k).ob.kind,.s (h k).ob.name,.i (h k).ob.ver,.i (h k).ob.born,.s (h k).ob.text,.bool (h k).ob.ending,.l ah (h k).ob.hn ch] 120)) lo hi Zd hl Bj (hc.below (hBw.alloc hBw.size _) hhi);rw[Qv]at hL;have HA:=Ai hall;have uD:=Ai hco;have HX:=Ai hx;clear Qv hli hall hc hf hcx hsx hco hx;go_wp2_with fail;refine hL.mono ?_;rintro e w1 ⟨rfl,hb1⟩;clear hL;have hB1:Below (w.1.size+1) (w.alloc (.cells #[.i now,.i floor,.l a1 m c1,.l (some ⟨b,off,none⟩) n c2,.l a3 n3 c3] 35)) w1:=(hb.alloc hsz _).trans (hb1.mono Zd);have hBw1:Below w.1.size w w1:=(An _ _).trans (hB1.mono Za);have hz1:wr.1.size+1<=w1.1.size:=by have:=hb1.size;simp at this;omega
       have p1:=Au hb1 1;have p2:=Au hb1 2;have p3:=Au hb1 3;have o0:=Au Xs 0;have o1:=Au Xs 1;have o2:=Au Xs 2;have o3:=Au Xs 3;have o4:=Au Xs 4;simp only[Ah,Ad,Ab]at p1 p2 p3 o0 o1 o2 o3 o4;clear d0 d1 d2 d3 d4 d5 d6 d7 d8 hb1;by_cases hii:i'=k;case neg=>
        have HN:=Ai (show Qd m x n h k=true by unfold Qd;rw[yF.out];simp[hii]);have hd:((i':Int) !=(k:Int))=true:=Zd;have hd2:¬(i':Int)=(k:Int):=Za;clear hii;go_wp2;go_roundw;case rel=>exact⟨k+1,Za,by go_num,hB1,λj hj=>(by
         rcases As j k with h3|h3;.exact HA j h3
         .have:j=k:=Za;subst this;exact HN)⟩
        case measure=>simp[intOf];omega
       subst hii;cases hg:(h i').gone with
       |true=>
        have HN:=Ai (show Qd m x n h i'=true by unfold Qd;rw[hg];simp);rw[hg]at p1;clear hg;go_wp2;go_roundw;case rel=>exact⟨i'+1,Za,by go_num,hB1,λj hj=>(by
         rcases As j i' with h3|h3;.exact HA j h3
         .have:j=i':=Za;subst this;exact HN)⟩
        case measure=>simp[intOf];omega
       |false=>rw[hg]at p1;have HG:=Ai hg;clear hg;have hS:=BQ now floor m x a1 (some ⟨b,off,none⟩) a3 c1 n c2 n3 c3 (h i').ob.kind (h i').ob.name w1 lo hi Za hm HX (uD.below hBw1 hhi);cases hfn:Cw x (h i').ob.kind (h i').ob.name m with
        |false=>have HE:=Ai (show Ds now floor m x n h=false by unfold Ds O7;rw[A9 (p:=Qd m x n h) hkn2 (show Qd m x n h i'=false by unfold Qd;rw[yF.out,HG.out,show(JS x (h i').ob.kind (h i').ob.name m).isSome=false from hfn];simp)];simp);rw[hfn]at hS;clear hfn;go_wp2_with fail;refine hS.mono ?_;rintro e w2 ⟨ad',cap',rfl,_,_,hb2⟩;have hB2:=hB1.trans (hb2.mono Za);clear hS hb2;go_wp2;go_ret;exact⟨Av HE.symm,((An _ _).trans (hB2.mono Za)).alloc (by have:=hB2.size;simp at this;omega) _⟩
        |true=>
         have HN:=Ai (show Qd m x n h i'=true by unfold Qd;rw[show(JS x (h i').ob.kind (h i').ob.name m).isSome=true from hfn];simp);rw[hfn]at hS;clear hfn;go_wp2_with fail;refine hS.mono ?_;rintro e w2 ⟨ad',cap',rfl,_,_,hb2⟩;have hB2:=hB1.trans (hb2.mono Za);have hz2:w.1.size+1<=w2.1.size:=by have:=hB2.size;simp at this;omega
         clear hS hb2;go_wp2;go_roundw;case rel=>exact⟨i'+1,Za,by go_num,(hB2.alloc hz2 _),λj hj=>(by
          rcases As j i' with h3|h3;.exact HA j h3
          .have:j=i':=Za;subst this;exact HN)⟩
         case measure=>simp[intOf];omega
      .have HE:=Ai (show Ds now floor m x n h=true by unfold Ds O7;rw[decide_eq_true (show n<=200 by omega),decide_eq_true wW.out,Oz.out,Um.out,Bm.2 (λi hi=>hall i Za)];rfl);clear hall hc hf hco hx;go_wp2;go_ret;exact⟨Av HE.symm,hBw⟩
def YR (B:Bk):Bool:=J9 B.now B.floor&&(Ge B.on B.os B.now&&(Ds B.now B.floor B.on B.os B.hn B.hs&&L5 B.tn B.ts B.now))
theorem Nh (p q:Nat->Bool):∀n,Bi (λi=>p i&&q i) n=(Bi p n&&Bi q n)
 |0=>rfl
 |n+1=>by simp only[Bi,Nh p q n];cases Bi p n<;>cases Bi q n<;>cases p n<;>cases q n<;>rfl
theorem mM (n:Nat)(x:Nat->Ob)(now:Int):Ge n x now=(DW n x now&&ER n x):=by unfold Ge DW;cases decide (n<=100)<;>cases Ih n x<;>cases JG n x now<;>cases ER n x<;>rfl
theorem mR (now floor:Int)(m:Nat)(x:Nat->Ob)(n:Nat)(h:Nat->Ch):Ds now floor m x n h=(Fh now floor n h&&(Bi (Iz floor h) n&&O7 floor m x n h)):=by
 have h1:Bi (Gs now floor h) n=(Bi (λi=>decide ((h i).ver=floor+1+i)&&IA (h i) now) n&&Bi (Iz floor h) n):=by rw[<-Nh];exact congrArg (λp=>Bi p n) (funext λi=>by unfold Gs;cases decide ((h i).ver=floor+1+i)<;>cases IA (h i) now<;>cases Iz floor h i<;>rfl)
 unfold Ds Fh;rw[h1];cases decide (n<=200)<;>cases decide ((n:Int)=now-floor)<;>cases Bi (λi=>decide ((h i).ver=floor+1+i)&&IA (h i) now) n<;>cases Bi (Iz floor h) n<;>cases O7 floor m x n h<;>rfl
theorem Wz (n:Nat)(x:Nat->Ti)(now:Int):L5 n x now=Ku n x now:=by
 unfold L5 Ku;have h1:Bi (M4 x now) n=(Bi (λi=>L4 (x i) now) n&&Bi (λi=>i==0||D4 (x (i-1)).client (x i).client) n):=by rw[<-Nh];rfl
 rw[h1];unfold QC;cases decide (n<=50)<;>cases Bi (λi=>L4 (x i) now) n<;>cases Bi (λi=>i==0||D4 (x (i-1)).client (x i).client) n<;>rfl
theorem aR (B:Bk):YR B=Bi (Ht B) 7:=by unfold YR;rw[mM,mR,Wz];simp only[Bi,Ht];cases J9 B.now B.floor<;>cases DW B.on B.os B.now<;>cases ER B.on B.os<;>cases Fh B.now B.floor B.hn B.hs<;>cases Bi (Iz B.floor B.hs) B.hn<;>cases O7 B.floor B.on B.os B.hn B.hs<;>cases Ku B.tn B.ts B.now<;>rfl
theorem Lb (B:Bk)(a1 a2 a3:OA)(c1 c2 c3:Nat)(w:World)(lo hi:Nat)(hhi:hi<=w.1.size)(hfit:Cx B)(hin:Bz w lo hi B a1 a2 a3):Calls prog 34 #[.agg (vB B a1 a2 a3 c1 c2 c3)] w λe w'=>e=.returned (.bool (Bi (Ht B) 7))/\Below w.1.size w w':=by rw[<-aR];obtain⟨f1,f2,f3,f4,f5,f6⟩:=hfit;cases h1:DU B.now 0 1000000 with
 |false=>have HE:=Ai (show YR B=false by unfold YR J9;rw[h1];rfl);go_enter func34,ntmps34;go_wp2_with (go_at_call 70;refine(Cf _ _ _ _).mono ?_;rintro e w1 ⟨rfl,rfl⟩;rw[h1]);go_ret;exact⟨Av HE.symm,An _ _⟩
 |true=>cases h2:DU B.floor 0 B.now with
 |false=>have HE:=Ai (show YR B=false by unfold YR J9;rw[h2];simp);go_enter func34,ntmps34;go_wp2_with (go_at_call 70;refine(Cf _ _ _ _).mono ?_;rintro e w1 ⟨rfl,rfl⟩;first|rw[h1]|rw[h2]);go_ret;exact⟨Av HE.symm,An _ _⟩
 |true=>have HN:=Ai (show J9 B.now B.floor=true by unfold J9;rw[h1,h2];rfl);obtain⟨n1,n2,n3⟩:=TU HN;have N1:=Ai n1;have N2:=Ai n2;have N3:=Ai n3;clear n1 n2 n3;have hA:=Ai (show Bz (w.alloc (.cells (vB B a1 a2 a3 c1 c2 c3) 35)) lo hi B a1 a2 a3 from hin.below (An _ _) hhi);clear hin;go_enter func34,ntmps34;go_wp2_with (go_at_call 70;refine(Cf _ _ _ _).mono ?_;rintro e w1 ⟨rfl,rfl⟩;first|rw[h1]|rw[h2]);refine(RW B.now B.floor B.on B.os a1 a2 a3 c1 B.hn c2 B.tn c3 _ lo hi Zd Za f4 hA.o).mono ?_;rintro e w1 ⟨rfl,hb1⟩;cases ho:Ge B.on B.os B.now with
 |false=>have HE:=Ai (show YR B=false by unfold YR;rw[ho];simp);go_wp2;go_ret;exact⟨Av HE.symm,(An _ _).trans (hb1.mono Ze)⟩
 |true=>
 have HO:=Ai ho;have p0:=Au hb1 0;have p1:=Au hb1 1;have p2:=Au hb1 2;have p3:=Au hb1 3;have p4:=Au hb1 4;simp only[Ah,Ad,Ab]at p0 p1 p2 p3 p4;have hz1:w.1.size<w1.1.size:=by have:=hb1.size;simp at this;omega
 have hA1:=Ai (hA.below hb1 Zd);have hB1:Below w.1.size w w1:=(An _ _).trans (hb1.mono Ze);clear hb1 hA ho;go_wp2_with fail;refine(Sn B.now B.floor B.on B.hn B.os B.hs a1 a2 a3 c1 c2 B.tn c3 w1 lo hi Za Za Za N1 N2 N3 f4 f5 hA1.o hA1.h).mono ?_;rintro e w2 ⟨rfl,hb2⟩;cases hh:Ds B.now B.floor B.on B.os B.hn B.hs with
 |false=>have HE:=Ai (show YR B=false by unfold YR;rw[hh];simp);go_wp2;go_ret;exact⟨Av HE.symm,hB1.trans (hb2.mono Za)⟩
 |true=>
 have HH:=Ai hh;have q0:=(hb2.cell (p:=⟨w.1.size,0,none⟩) hz1).trans p0;have q1:=(hb2.cell (p:=⟨w.1.size,1,none⟩) hz1).trans p1;have q2:=(hb2.cell (p:=⟨w.1.size,2,none⟩) hz1).trans p2;have q3:=(hb2.cell (p:=⟨w.1.size,3,none⟩) hz1).trans p3;have q4:=(hb2.cell (p:=⟨w.1.size,4,none⟩) hz1).trans p4;have hA2:=Ai (hA1.below hb2 Za);have hB2:Below w.1.size w w2:=hB1.trans (hb2.mono Za);have hz2:w.1.size<w2.1.size:=by have:=hb2.size;omega
 clear hb2 hA1 hh p0 p1 p2 p3 p4;go_wp2_with fail;refine(Sb B.now B.floor B.tn B.ts a1 a2 a3 B.on c1 B.hn c2 c3 w2 lo hi Za Za f6 hA2.t).mono ?_;rintro e w3 ⟨rfl,hb3⟩;have HE:=Ai (show YR B=L5 B.tn B.ts B.now by unfold YR;rw[HN.out,HO.out,HH.out];rfl);clear q0 q1 q2 q3 q4;go_wp2;go_ret;exact⟨Av HE.symm,hB2.trans (hb3.mono Za)⟩
end Go.Proofs.YtllmmkchokkaaaaGreatDoor
