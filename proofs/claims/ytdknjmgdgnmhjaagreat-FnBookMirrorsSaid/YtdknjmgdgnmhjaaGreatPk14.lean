import Derived.Test.YtdknjmgdgnmhjaaGreatPk10
set_option maxRecDepth 100000
set_option maxHeartbeats 4000000
namespace Go.Proofs.YtdknjmgdgnmhjaaGreat
open Go.RowKit Go.Maps Go.Proofs.Tryz
def O5 (x:Nat->Ti)(now:Int)(i:Nat):Bool:=Mc (x i) now&&(i==0||Gt (x (i-1)).c (x i).c)
def Oa (n:Nat)(x:Nat->Ti)(now:Int):Bool:=decide (n<=50)&&Bj (O5 x now) n
theorem Vj (now floor:Int)(n:Nat)(x:Nat->Ti)(a1 a2 a3:OA)(n1 c1 n2 c2 c3:Nat)(w:World)(lo hi:Nat)(CD:hi<=w.1.size)(hl:(n:Int)<=1099511627776)(hf:∀i,i<n->XB (x i))(hc:DD w lo hi a3 n x):Calls prog 65 #[.agg #[.i now,.i floor,.l a1 n1 c1,.l a2 n2 c2,.l a3 n c3]] w λe w'=>e=.returned (.bool (Oa n x now))/\Below w.1.size w w':=by
 by_cases jt:(50:Int)<n;.have HE:=Ab (show Oa n x now=false by unfold Oa;rw[decide_eq_false Za];rfl);go_enter func65,ntmps65;go_wp2;exact Kx
 go_enter func65,ntmps65;go_wp2;go_loopw[3](λi wr=>∃k:Nat,k<=n/\i=.i k/\(∀j,j<k->O5 x now j=true)/\Below (w.1.size+1) (w.alloc (.cells #[.i now,.i floor,.l a1 n1 c1,.l a2 n2 c2,.l a3 n c3] 36)) wr)(λi _=>n-(intOf i).toNat);case atStart=>exact⟨0,Ar _,rfl,λj hj=>absurd hj (Ae _),Ap _ _⟩
 case round=>
  obtain⟨k,hk,rfl,Bg,hb⟩:=hrel;have IK:Below w.1.size w wr:=(AC _ _).trans (hb.mono Za);have JP:w.1.size+1<=wr.1.size:=by have:=hb.size;simpa using this
  have e0:wr.cell? ⟨w.1.size,0,none⟩=some (.i now):=(hb.cell (p:=⟨w.1.size,0,none⟩) Zf).trans Ze;have e4:wr.cell? ⟨w.1.size,4,none⟩=some (.slice a3 n c3):=(hb.cell (p:=⟨w.1.size,4,none⟩) Zf).trans Ze;by_cases B7:k<n
  .obtain⟨b,off,rfl,Gc,Ja,Dh⟩:=hc k B7;have tz:=(hf k B7).c;have hfp:=(hf k B7).p;obtain⟨d0,d1,d2,d3,d4⟩:=Dh.below IK Za;have Gr:b<wr.1.size:=Za;have hzw:w.1.size<wr.1.size:=Za;have HA:=Ab Bg;have CF:Nonempty (GW (wr.alloc (.cells (vT (x k)) 132))):=⟨⟨_,Ap _ _⟩⟩;have z0:=Aq (W1:=wr.alloc (.cells (vT (x k)) 132)) (p:=⟨w.1.size,0,none⟩) ((At _ _ _ hzw).trans e0) Zd;have z4:=Aq (W1:=wr.alloc (.cells (vT (x k)) 132)) (p:=⟨w.1.size,4,none⟩) ((At _ _ _ hzw).trans e4) Zd;have x0:=Aq (W1:=wr.alloc (.cells (vT (x k)) 132)) (p:=⟨wr.1.size,0,none⟩) (v:=.s (x k).c) Ze Ze;have x1:=Aq (W1:=wr.alloc (.cells (vT (x k)) 132)) (p:=⟨wr.1.size,1,none⟩) (v:=.i (x k).num) Ze Ze;have x2:=Aq (W1:=wr.alloc (.cells (vT (x k)) 132)) (p:=⟨wr.1.size,2,none⟩) (v:=.s (x k).print) Ze Ze;have x3:=Aq (W1:=wr.alloc (.cells (vT (x k)) 132)) (p:=⟨wr.1.size,3,none⟩) (v:=.i (x k).code) Ze Ze;have x4:=Aq (W1:=wr.alloc (.cells (vT (x k)) 132)) (p:=⟨wr.1.size,4,none⟩) (v:=.i (x k).t) Ze Ze;clear Bg Dh;have hd9:=d0;go_wp2;clear d0 d1 d2 d3 d4 e0 e4;cases hn:Cc (x k).c with
   |false=>clear hc hf;have HE:=Ab (show Oa n x now=false by unfold Oa;rw[Bd (p:=O5 x now) B7 (by simp[O5,Mc,hn])];simp);exact vZ
   |true=>
    rcases Bi k with ke|YT
    .clear hc hf;have hg:decide ((0:Int)<(k:Int))=false:=decide_eq_false Za;have hg2:decide (0<k)=false:=decide_eq_false Za;have rZ:(k==0)=true:=by simp[ke]
     clear ke;cases h1:G6 (x (k)).num 1 1000000 with
     |false=>have HE:=Ab (show Oa n x now=false by unfold Oa;rw[Bd (p:=O5 x now) B7 (by simp[O5,Mc,hn,rZ,h1])];simp);exact vZ
     |true=>
     by_cases hp:(x (k)).print.size=8;case neg=>have hpz:(((x (k)).print.size:Int)==8)=false:=Zd;have hpn:(((x (k)).print.size:Int) !=8)=true:=Zd;have HE:=Ab (show Oa n x now=false by unfold Oa;rw[Bd (p:=O5 x now) B7 (by simp[O5,Mc,hn,rZ,h1,hp])];simp);exact vZ
     have hpz:(((x (k)).print.size:Int)==8)=true:=Zd;have hpn:(((x (k)).print.size:Int) !=8)=false:=Zd;have HP8:=Ab hp;clear hp;cases h2:G6 (x (k)).code 0 9 with
     |false=>have HE:=Ab (show Oa n x now=false by unfold Oa;rw[Bd (p:=O5 x now) B7 (by simp[O5,Mc,hn,rZ,h1,h2])];simp);exact vZ
     |true=>cases h3:G6 (x (k)).t 0 now with
     |false=>have HE:=Ab (show Oa n x now=false by unfold Oa;rw[Bd (p:=O5 x now) B7 (by simp[O5,Mc,hn,rZ,h1,h2,h3])];simp);exact vZ
     |true=>
      have HN:=Ab (show O5 x now (k)=true by simp[O5,Mc,hn,rZ,h1,h2,h3,HP8.out]);refine AP Zc Zc ?_;repeat(go_big_quiet_step((first|(go_at_call 80;exact B4 ((Dm _ _ tz).mono (λe w' h=>⟨h.1,h.2▸Ap _ _⟩)))|(go_at_call 62;exact B4 ((FK _ _ _ _).mono (λe w' h=>⟨h.1,h.2▸Ap _ _⟩))))))
      refine wpQuiet_nil ?_;rintro w2 ⟨u,hu⟩;have Dq:Below (wr.1.size+1) (wr.alloc (.cells (vT (x (k))) 132)) w2:=by have h9:=hu▸u.prop;simpa using h9
      clear hu u;go_wp2;go_roundw;case rel=>exact⟨k+1,Za,by go_num,λj hj=>(by
       rcases AD j (k)with h3|h3;.exact HA j h3
       .have:j=k:=Za;subst this;exact HN),(hb.alloc JP _).trans (Dq.mono Za)⟩
      case measure=>simp[intOf];omega
    .obtain⟨m,rfl⟩:∃m,k=m+1:=⟨k-1,Za⟩;obtain⟨b',off',e,_,_,cB⟩:=hc m Za;cases e;have y0:=Aq (W1:=wr.alloc (.cells (vT (x (m+1))) 132)) (p:=⟨b,off+m*5,none⟩) ((At _ _ _ Gr).trans (cB.below IK Za).c0) Zd;have hg:decide ((0:Int)<((m+1:Nat):Int))=true:=decide_eq_true Za;clear hc hf cB;cases hlt:Gt (x m).c (x (m+1)).c with
     |false=>have MV:Op.bytesLess (x m).c.toList (x (m+1)).c.toList=false:=hlt;have HE:=Ab (show Oa n x now=false by unfold Oa;rw[Bd (p:=O5 x now) B7 (by simp[O5,Mc,hlt])];simp);exact yT
     |true=>have MV:Op.bytesLess (x m).c.toList (x (m+1)).c.toList=true:=hlt;cases h1:G6 (x (m+1)).num 1 1000000 with
     |false=>have HE:=Ab (show Oa n x now=false by unfold Oa;rw[Bd (p:=O5 x now) B7 (by simp[O5,Mc,hn,hlt,h1])];simp);exact yT
     |true=>
     by_cases hp:(x (m+1)).print.size=8;case neg=>have hpz:(((x (m+1)).print.size:Int)==8)=false:=Zd;have hpn:(((x (m+1)).print.size:Int) !=8)=true:=Zd;have HE:=Ab (show Oa n x now=false by unfold Oa;rw[Bd (p:=O5 x now) B7 (by simp[O5,Mc,hn,hlt,h1,hp])];simp);exact yT
     have hpz:(((x (m+1)).print.size:Int)==8)=true:=Zd;have hpn:(((x (m+1)).print.size:Int) !=8)=false:=Zd;have HP8:=Ab hp;clear hp;cases h2:G6 (x (m+1)).code 0 9 with
     |false=>have HE:=Ab (show Oa n x now=false by unfold Oa;rw[Bd (p:=O5 x now) B7 (by simp[O5,Mc,hn,hlt,h1,h2])];simp);exact yT
     |true=>cases h3:G6 (x (m+1)).t 0 now with
     |false=>have HE:=Ab (show Oa n x now=false by unfold Oa;rw[Bd (p:=O5 x now) B7 (by simp[O5,Mc,hn,hlt,h1,h2,h3])];simp);exact yT
     |true=>
      have HN:=Ab (show O5 x now (m+1)=true by simp[O5,Mc,hn,hlt,h1,h2,h3,HP8.out]);refine AP Zc Zc ?_;repeat(go_big_quiet_step((first|(go_at_call 80;exact B4 ((Dm _ _ tz).mono (λe w' h=>⟨h.1,h.2▸Ap _ _⟩)))|(go_at_call 62;exact B4 ((FK _ _ _ _).mono (λe w' h=>⟨h.1,h.2▸Ap _ _⟩))))))
      refine wpQuiet_nil ?_;rintro w2 ⟨u,hu⟩;have Dq:Below (wr.1.size+1) (wr.alloc (.cells (vT (x (m+1))) 132)) w2:=by have h9:=hu▸u.prop;simpa using h9
      clear hu u;go_wp2;go_roundw;case rel=>exact⟨m+1+1,Za,by go_num,λj hj=>(by
       rcases AD j (m+1)with h3|h3;.exact HA j h3
       .have:j=m+1:=Za;subst this;exact HN),(hb.alloc JP _).trans (Dq.mono Za)⟩
      case measure=>simp[intOf];omega
  .have HE:=Ab (show Oa n x now=true by unfold Oa;rw[decide_eq_true (show n<=50 by omega),AS.2 (λi hi=>Bg i Za)];rfl);clear hc hf Bg;exact eM
def rj (gn en:Bool)(hn:Nat)(bo ve:Int):Bool:=if gn then en&&(decide (hn=0)&&!decide (bo=ve))else(!en||decide (0<hn))
def Iv (now floor:Int)(h:Nat->Ch)(i:Nat):Bool:=decide ((h i).t=floor+1+i)&&(GS (h i) now&&IU floor h i)
def DQ (now floor:Int)(m:Nat)(x:Nat->Ob)(n:Nat)(h:Nat->Ch):Bool:=decide (n<=200)&&(decide ((n:Int)=now-floor)&&(Bj (Iv now floor h) n&&Qg floor m x n h))
theorem XS{x:Ob}{now:Int}(h:Bv x now=true):x.b<=x.t:=by unfold Bv G6 at h;simp at h;omega
theorem qn (ve:Int)(gn:Bool)(ki na:ByteArray)(bo:Int)(te:ByteArray)(en:Bool)(hn:Nat)(hs:Nat->ByteArray)(now:Int)(hp:Bv ⟨ki,na,ve,bo,te,en,hn,hs⟩ now=true):GS ⟨ve,gn,⟨ki,na,ve,bo,te,en,hn,hs⟩⟩ now=rj gn en hn bo ve:=by have h1:=XS hp;dsimp only at h1;unfold GS rj;simp only[hp];cases gn with
 |false=>simp[Dp]
 |true=>
  have h2:decide (bo<ve)=!decide (bo=ve):=by
   by_cases h:bo=ve;.rw[decide_eq_true h,decide_eq_false Za];rfl
   .rw[decide_eq_false h,decide_eq_true Za];rfl
  simp[L2,h2]
theorem vV (n:Nat)(s:Nat->ByteArray)(m:Nat)(t:Nat->ByteArray):YQ n s m t=YQ m t n s:=by
 unfold YQ;by_cases h:n=m;.subst h;rw[show(λi=>decide (s i=t i))=λi=>decide (t i=s i)from funext λi=>by rw[decide_eq_decide];exact⟨Eq.symm,Eq.symm⟩]
 .rw[decide_eq_false h,decide_eq_false (λe=>h e.symm)];rfl
theorem KU{α:Type}[DecidableEq α](a b:α):decide (a=b)=decide (b=a):=by rw[decide_eq_decide];exact⟨Eq.symm,Eq.symm⟩
theorem bD (x z:Ob):Cv x z=Cv z x:=by unfold Cv;rw[KU x.k,KU x.n,KU x.t,KU x.b,KU x.m,KU x.e,vV]
theorem Vt (now floor:Int)(m n:Nat)(x:Nat->Ob)(h:Nat->Ch)(a1 a2 a3:OA)(c1 c2 n3 c3:Nat)(w:World)(lo hi:Nat)(CD:hi<=w.1.size)(hm:(m:Int)<=1099511627776)(hl:(n:Int)<=1099511627776)(jr:0<=floor)(LI:floor<=now)(hnm:now<=1000000)(hx:∀i,i<m->Cu (x i))(hf:∀i,i<n->Cu (h i).ob)(kA:Bh w lo hi a1 m x)(hc:Dv w lo hi a2 n h):Calls prog 64 #[.agg #[.i now,.i floor,.l a1 m c1,.l a2 n c2,.l a3 n3 c3]] w λe w'=>e=.returned (.bool (DQ now floor m x n h))/\Below w.1.size w w':=by
 by_cases Ahs:(200:Int)<n;.have HE:=Ab (show DQ now floor m x n h=false by unfold DQ;rw[decide_eq_false Za];rfl);go_enter func64,ntmps64;go_wp2;exact Kx
 by_cases hnf:(n:Int)=now-floor;case neg=>have HE:=Ab (show DQ now floor m x n h=false by unfold DQ;rw[decide_eq_false hnf];simp);go_enter func64,ntmps64;go_wp2;exact Kx
 have HNF:=Ab hnf;have Aed:now-floor=(n:Int):=Za;clear hnf;go_enter func64,ntmps64;go_wp2;clear Aed;go_loopw[3](λi wr=>∃k:Nat,k<=n/\i=.i k/\(∀j,j<k->Iv now floor h j=true)/\Below (w.1.size+1) (w.alloc (.cells #[.i now,.i floor,.l a1 m c1,.l a2 n c2,.l a3 n3 c3] 36)) wr)(λi _=>n-(intOf i).toNat);case atStart=>exact⟨0,Ar _,rfl,λj hj=>absurd hj (Ae _),Ap _ _⟩
 case round=>
  obtain⟨k,hk,rfl,Bg,hb⟩:=hrel;have IK:Below w.1.size w wr:=(AC _ _).trans (hb.mono Za);have JP:w.1.size+1<=wr.1.size:=by have:=hb.size;simpa using this
  have hwz:w.1.size<wr.1.size:=Za;have o0:=Ay Zp 0;have o1:=Ay Zp 1;have o2:=Ay Zp 2;have o3:=Ay Zp 3;simp only[Ah,Ai,Af]at o0 o1 o2 o3;by_cases B7:k<n
  .obtain⟨b,off,ah,ch,rfl,Gc,Ja,Dh,Il⟩:=hc k B7;have My:=hf k B7;have Dh:=Dh.below IK Za;have Ks:=Il.below IK CD;have HA:=Ab Bg;have HF:=Ab hf;have HCO:=Ab kA;have HX:=Ab hx;have PZ:=Ab hc;obtain⟨c,hce⟩:∃c,h k=c:=⟨_,rfl⟩;rw[hce]at Dh My Ks;have gr:=Ab hce;obtain⟨ve,gn,ki,na,ov,bo,te,en,hn,hs⟩:=c;obtain⟨d0,d1,d2,d3,d4,d5,d6,d7,d8⟩:=Dh;dsimp only at d0 d1 d2 d3 d4 d5 d6 d7 d8 Ks My;clear Bg hc hf Il kA hx hce;have tt:(k:Int)+1<=n:=Za;by_cases hv:ve=floor+1+k;case neg=>have HE:=Ab (show DQ now floor m x n h=false by unfold DQ;rw[Bd (p:=Iv now floor h) B7 (by unfold Iv;rw[gr.out,decide_eq_false hv];rfl)];simp);exact T'
   subst hv;by_cases hov:ov=floor+1+k;case neg=>have HE:=Ab (show DQ now floor m x n h=false by unfold DQ;rw[Bd (p:=Iv now floor h) B7 (by unfold Iv GS;rw[gr.out];simp[hov])];simp);exact T'
   subst hov;have hC:=T5 ⟨ki,na,floor+1+k,bo,te,en,hn,hs⟩ now ah ch ((wr.alloc (.cells #[.i (floor+1+k),.bool gn,.s ki,.s na,.i (floor+1+k),.i bo,.s te,.bool en,.l ah hn ch] 54)).alloc (.cells #[.s ki,.s na,.i (floor+1+k),.i bo,.s te,.bool en,.l ah hn ch] 52)) lo hi Zd My ((Ks.alloc Za _).alloc Zd _);dsimp only[vO]at hC;cases hp:Bv ⟨ki,na,floor+1+k,bo,te,en,hn,hs⟩ now with
   |false=>have HE:=Ab (show DQ now floor m x n h=false by unfold DQ;rw[Bd (p:=Iv now floor h) B7 (by unfold Iv GS;rw[gr.out];simp[hp])];simp);go_wp2_with fail;refine hC.mono ?_;rintro e w2 ⟨rfl,BT⟩;rw[hp];clear hC;go_wp2;go_ret;exact⟨A7 HE.symm,((IK.alloc IK.size _).alloc Zd _).trans (BT.mono Zd)⟩
   |true=>
   have HCG:=Ab (qn (floor+1+k) gn ki na bo te en hn hs now hp);have j5:(hn:Int)<=140737488355328:=by have:=My.h;simpa using(by dsimp only at this;omega)
   go_upto_region 10 with(go_at_call 86;refine hC.mono ?_;rintro e w2 ⟨rfl,BT⟩;rw[hp];clear hC);have Ds:Below (w.1.size+1) (w.alloc (.cells #[.i now,.i floor,.l a1 m c1,.l (some ⟨b,off,none⟩) n c2,.l a3 n3 c3] 36)) w2:=((hb.alloc JP _).alloc Zd _).trans (BT.mono Zd);have Fk:wr.1.size+2<=w2.1.size:=by have:=BT.size;simp at this;omega
   have s0:=E4 BT 0;have s1:=E4 BT 1;have s2:=E4 BT 2;have s3:=E4 BT 3;have s4:=E4 BT 4;have s5:=E4 BT 5;have s6:=E4 BT 6;have s7:=E4 BT 7;have s8:=E4 BT 8;have t0:=Ay BT 0;have t1:=Ay BT 1;have t2:=Ay BT 2;have t3:=Ay BT 3;have t4:=Ay BT 4;have t5:=Ay BT 5;have t6:=Ay BT 6;simp only[Ah,Ai,Af,Av]at s0 s1 s2 s3 s4 s5 s6 s7 s8 t0 t1 t2 t3 t4 t5 t6;have o0:=Ay (by simpa using Ds) 0;have o1:=Ay (by simpa using Ds) 1;have o2:=Ay (by simpa using Ds) 2;have o3:=Ay (by simpa using Ds) 3;simp only[Ah,Ai,Af]at o0 o1 o2 o3;clear BT d0 d1 d2 d3 d4 d5 d6 d7 d8 hp;go_cut[98]from 28 to 141 (λs98 wx=>s98=.bool (!rj gn en hn bo (floor+1+k))/\w2=wx);case first=>cases gn with
    |true=>cases en with
     |false=>go_wp2_with fail;go_meet;exact⟨rfl,rfl⟩
     |true=>
      by_cases h0:hn=0
      .subst h0;by_cases h1:bo=floor+1+k;.subst h1;go_wp2_with fail;go_meet;exact⟨congrArg Value.bool (by simp[rj]),rfl⟩
       .have h1b:(bo==floor+1+k)=false:=by simp[h1]
        have HH:=Ab h1;clear h1;go_wp2_with fail;go_meet;exact⟨congrArg Value.bool (by simp[rj,HH.out]),rfl⟩
      .have h2:decide ((0:Int)<(hn:Int))=true:=decide_eq_true Za;have h3:(0:Int)<hn:=Za;have HH:=Ab h0;clear h0;go_wp2_with fail;go_meet;exact⟨congrArg Value.bool (by simp[rj,HH.out]),rfl⟩
    |false=>cases en with
     |false=>go_wp2_with fail;go_meet;exact⟨rfl,rfl⟩
     |true=>
      by_cases h0:hn=0;.subst h0;go_wp2_with fail;go_meet;exact⟨congrArg Value.bool (by simp[rj]),rfl⟩
      .have h2:((hn:Int)==0)=false:=Zd;have HH:=Ab h0;clear h0;go_wp2_with fail;go_meet;exact⟨congrArg Value.bool (by have:=HH.out;simp[rj];omega),rfl⟩
   case rest=>obtain⟨rfl,rfl⟩:=hcut;cases QM:rj gn en hn bo (floor+1+k)with
   |false=>have HE:=Ab (show DQ now floor m x n h=false by unfold DQ;rw[Bd (p:=Iv now floor h) B7 (by unfold Iv;rw[gr.out,HCG.out,QM];simp)];simp);exact cz
   |true=>have HG:=Ab (HCG.trans QM);clear QM;have Ahh:Below w.1.size w w2:=(AC _ _).trans (Ds.mono Za);have hL:=M2 n k h ⟨ki,na,floor+1+k,bo,te,en,hn,hs⟩ (some ⟨b,off,none⟩) ah c2 ch w2 lo hi Za hl Za (PZ.below Ahh CD);dsimp only[vO]at hL;have hK:=λw=>Yj ⟨floor+1+k,gn,⟨ki,na,floor+1+k,bo,te,en,hn,hs⟩⟩ ah ch w;dsimp only at hK;cases I4:Jj h ki na k with
   |none=>
    have Tk:Jg h ⟨ki,na,floor+1+k,bo,te,en,hn,hs⟩ k=-1:=by unfold Jg;dsimp only;rw[I4]
    have ur:=Ab (show IU floor h k=Ju ⟨floor+1+k,gn,⟨ki,na,floor+1+k,bo,te,en,hn,hs⟩⟩ floor by unfold IU;rw[gr.out];dsimp only;rw[I4]);rw[Tk]at hL;clear Tk I4;go_wp2_with fail;refine hL.mono ?_;rintro e w3 ⟨rfl,C6⟩;clear hL;have q0:=(C6.cell (p:=⟨wr.1.size,0,none⟩) Zi).trans s0;have q1:=(C6.cell (p:=⟨wr.1.size,1,none⟩) Zi).trans s1;have q2:=(C6.cell (p:=⟨wr.1.size,2,none⟩) Zi).trans s2;have q3:=(C6.cell (p:=⟨wr.1.size,3,none⟩) Zi).trans s3;have q4:=(C6.cell (p:=⟨wr.1.size,4,none⟩) Zi).trans s4;have q5:=(C6.cell (p:=⟨wr.1.size,5,none⟩) Zi).trans s5;have q6:=(C6.cell (p:=⟨wr.1.size,6,none⟩) Zi).trans s6;have q7:=(C6.cell (p:=⟨wr.1.size,7,none⟩) Zi).trans s7;have q8:=(C6.cell (p:=⟨wr.1.size,8,none⟩) Zi).trans s8;have r3:=(C6.cell (p:=⟨wr.1.size+1,3,none⟩) Zck).trans t3;have v1:=(C6.cell (p:=⟨w.1.size,1,none⟩) Zf).trans o1;have YG:wr.1.size+2<=w3.1.size:=by have:=C6.size;omega
    have ig:=Ds.trans (C6.mono Za);clear s0 s1 s2 s3 s4 s5 s6 s7 s8 t0 t1 t2 t3 t4 t5 t6 o0 o1 o2 o3 C6;go_wp2_with fail;refine(hK _).mono ?_;rintro e w4 ⟨rfl,E1⟩;clear hK;have g3:=(E1.cell (p:=⟨wr.1.size+1,3,none⟩) Zck).trans r3;have f1:=(E1.cell (p:=⟨w.1.size,1,none⟩) Zf).trans v1;have Pc:=ig.trans (E1.mono Za);clear q0 q1 q2 q3 q4 q5 q6 q7 q8 r3 v1 E1;cases Kt:Nf ⟨floor+1+k,gn,⟨ki,na,floor+1+k,bo,te,en,hn,hs⟩⟩with
    |true=>have HN:=Ab (show Iv now floor h k=true by unfold Iv;rw[ur.out,gr.out,HG.out];simp[Ju,Kt]);exact Abm
    |false=>
     by_cases hbf:floor<bo;.have HE:=Ab (show DQ now floor m x n h=false by unfold DQ;rw[Bd (p:=Iv now floor h) B7 (by unfold Iv;rw[ur.out];have:¬bo<=floor:=Za;simp[Ju,Kt,this])];simp);go_wp2;go_ret;exact⟨A7 HE.symm,(AC _ _).trans (Pc.mono Za)⟩
     .have HN:=Ab (show Iv now floor h k=true by unfold Iv;rw[ur.out,gr.out,HG.out];have:bo<=floor:=Za;simp[Ju,this]);exact Abm
   |some i=>
    have Cs:=(Jy I4).1;have Tk:Jg h ⟨ki,na,floor+1+k,bo,te,en,hn,hs⟩ k=i:=by unfold Jg;dsimp only;rw[I4]
    have ur:=Ab (show IU floor h k=IY (h i) ⟨floor+1+k,gn,⟨ki,na,floor+1+k,bo,te,en,hn,hs⟩⟩by unfold IU;rw[gr.out];dsimp only;rw[I4]);rw[Tk]at hL;clear Tk I4;obtain⟨b',off',ah',ch',e,z_,SH,cB,hsy⟩:=PZ i Za;cases e;have hiz:(i:Int)+1<=n:=Za;have Fq:decide ((i:Int)<0)=false:=decide_eq_false Za;go_wp2_with fail;refine hL.mono ?_;rintro e w3 ⟨rfl,C6⟩;clear hL;have YG:wr.1.size+2<=w3.1.size:=by have:=C6.size;omega
    have q0:=(C6.cell (p:=⟨wr.1.size,0,none⟩) Zi).trans s0;have q1:=(C6.cell (p:=⟨wr.1.size,1,none⟩) Zi).trans s1;have q2:=(C6.cell (p:=⟨wr.1.size,2,none⟩) Zi).trans s2;have q3:=(C6.cell (p:=⟨wr.1.size,3,none⟩) Zi).trans s3;have q4:=(C6.cell (p:=⟨wr.1.size,4,none⟩) Zi).trans s4;have q5:=(C6.cell (p:=⟨wr.1.size,5,none⟩) Zi).trans s5;have q6:=(C6.cell (p:=⟨wr.1.size,6,none⟩) Zi).trans s6;have q7:=(C6.cell (p:=⟨wr.1.size,7,none⟩) Zi).trans s7;have q8:=(C6.cell (p:=⟨wr.1.size,8,none⟩) Zi).trans s8;have r3:=(C6.cell (p:=⟨wr.1.size+1,3,none⟩) Zck).trans t3;have v3:=(C6.cell (p:=⟨w.1.size,3,none⟩) Zf).trans o3;have ig:=Ds.trans (C6.mono Za);have Agt:Below w.1.size w w3:=(AC _ _).trans (ig.mono Za);obtain⟨f0,f1,f2,f3,f4,f5,f6,f7,f8⟩:=cB.below Agt Za;clear s0 s1 s2 s3 s4 s5 s6 s7 s8 t0 t1 t2 t3 t4 t5 t6 o0 o1 o2 o3 C6 cB hsy;go_wp2;have x0:=Aq q0 Zi;have x1:=Aq q1 Zi;have x2:=Aq q2 Zi;have x3:=Aq q3 Zi;have x4:=Aq q4 Zi;have x5:=Aq q5 Zi;have x6:=Aq q6 Zi;have x7:=Aq q7 Zi;have x8:=Aq q8 Zi;have xr3:=Aq r3 Zck;have xv3:=Aq v3 Zf;have y5:=Aq f5 Zj;have CF:Nonempty (GW w3):=⟨⟨_,Ap _ _⟩⟩;obtain⟨pv,hpb⟩:∃pv,(h i).ob.b=pv:=⟨_,rfl⟩;rw[hpb]at y5;have HPB:=Ab hpb;clear hpb;clear q0 q1 q2 q3 q4 q5 q6 q7 q8 r3 v3 f0 f2 f3 f4 f5 f6 f7 f8;cases Kt:Nf ⟨floor+1+k,gn,⟨ki,na,floor+1+k,bo,te,en,hn,hs⟩⟩with
    |true=>rw[Kt]at hK;cases hg:(h i).g with
     |true=>rw[hg]at f1;have y1:=Aq f1 Zj;have HN:=Ab (show Iv now floor h k=true by unfold Iv;rw[ur.out,gr.out,HG.out];simp[IY,Kt,hg]);clear Kt hg f1;exact W_
     |false=>exact v_
    |false=>rw[Kt]at hK;cases hg:(h i).g with
     |true=>exact v_
     |false=>
      rw[hg]at f1;have y1:=Aq f1 Zj;by_cases hq:pv=bo
      .have hqb:(bo !=pv)=false:=by simp[hq]
       have HN:=Ab (show Iv now floor h k=true by unfold Iv;rw[ur.out,gr.out,HG.out];simp[IY,Kt,hg,HPB.out,hq]);clear Kt hg f1 hq;exact W_
      .have hqb:(bo !=pv)=true:=by simp;exact λe=>hq e.symm
       have HE:=Ab (show DQ now floor m x n h=false by unfold DQ;rw[Bd (p:=Iv now floor h) B7 (by unfold Iv;rw[ur.out];simp[IY,Kt,hg,HPB.out,hq])];simp);clear Kt hg f1 hq;exact Agj
  .have:n=k:=Za;subst this;have gO:=Ab (show Bj (Iv now floor h) n=true from AS.2 Bg);clear Bg;go_wp2;clear o0 o1 o2 o3;obtain⟨W,hW⟩:∃W,W=wr:=⟨wr,rfl⟩;subst hW;go_loopw[7](λi wq=>∃k:Nat,k<=m/\i=.i k/\Below (w.1.size+1) (w.alloc (.cells #[.i now,.i floor,.l a1 m c1,.l a2 n c2,.l a3 n3 c3] 36)) wq/\∀j,j<k->agO floor x n h j=true)(λi _=>m-(intOf i).toNat);case atStart=>exact⟨0,Ar _,rfl,hb,λj hj=>absurd hj (Ae _)⟩
   case round=>
    obtain⟨k,cC,rfl,hb,Bg⟩:=hrel;have IK:Below w.1.size w wr:=(AC _ _).trans (hb.mono Za);have JP:w.1.size+1<=wr.1.size:=by have:=hb.size;simpa using this
    have hwz:w.1.size<wr.1.size:=Za;have Tn:hi<=wr.1.size:=Za;have o0:=Ay Zp 0;have o1:=Ay Zp 1;have o2:=Ay Zp 2;have o3:=Ay Zp 3;have o4:=Ay Zp 4;simp only[Ah,Ai,Af]at o0 o1 o2 o3 o4;by_cases ic:k<m
    .obtain⟨b,off,ah,ch,rfl,Gc,Ja,Dh,Il⟩:=kA k ic;have vp:=hx k ic;have hxh:((x k).hn:Int)<=140737488355328:=by have:=vp.h;omega
     obtain⟨d0,d1,d2,d3,d4,d5,d6⟩:=Dh.below IK Za;have HA:=Ab Bg;have HC:=Ab hc;have HF:=Ab hf;have HS:=Ab Il;have hcu:∀u:GW wr,Dv u.val lo hi a2 n h:=λu=>hc.below (IK.trans (u.prop.mono Za)) CD;have im:∀u:GW wr,hi<=u.val.1.size:=λu=>AJ Tn u.prop.size;have hLU:∀u:GW wr,Calls prog 87 #[.l a2 n c2,.agg (vO (x k) ah ch),.i n] u.val λe w'=>e=.returned (.i (Jg h (x k) n))/\Below u.val.1.size u.val w':=λu=>M2 n n h (x k) a2 ah c2 ch _ lo hi (im u) hl A9 (hcu u);clear Bg hc hf kA hx Dh Il hcu im;have z2:=Aq o2 Zf;have z3:=Aq o3 Zf;have x0:=Aq d0 Zj;have x1:=Aq d1 Zj;have x2:=Aq d2 Zj;have x3:=Aq d3 Zj;have x4:=Aq d4 Zj;have x5:=Aq d5 Zj;have x6:=Aq d6 Zj;have CF:Nonempty (GW wr):=⟨⟨_,Ap _ _⟩⟩;go_wp2;cases I4:Jj h (x k).k (x k).n n with
     |none=>
      have Tk:Jg h (x k) n=-1:=by unfold Jg;rw[I4]
      have HL:=Ab (show agO floor x n h k=decide ((x k).t<=floor)by unfold agO;rw[I4]);simp only[Tk]at hLU;clear Tk I4;refine AP Zc Zc ?_;repeat(go_big_quiet_step((go_at_call 87;go_must(exact B4 (hLU _)))))
      refine wpQuiet_nil ?_;rintro w1 ⟨u,hu⟩;have Lg:Below wr.1.size wr w1:=hu▸u.prop;clear hu u CF hLU z2 z3 x0 x1 x2 x3 x4 x5 x6;have Fp:=hb.trans (Lg.mono Za);have p1:=(Lg.cell (p:=⟨w.1.size,1,none⟩) Zf).trans o1;have p2:=(Lg.cell (p:=⟨w.1.size,2,none⟩) Zf).trans o2;have p3:=(Lg.cell (p:=⟨w.1.size,3,none⟩) Zf).trans o3;have e2:=(Lg.cell (p:=⟨b,off+k*7+2,none⟩) Zj).trans d2;have C7:wr.1.size<=w1.1.size:=Lg.size;have u1:=Aq p1 Zf;have u2:=Aq p2 Zf;have u3:=Aq p3 Zf;have y2:=Aq e2 Zj;have CF:Nonempty (GW w1):=⟨⟨_,Ap _ _⟩⟩;clear d0 d1 d2 d3 d4 d5 d6 o0 o1 o2 o3 o4 p1 p2 p3 e2 Lg;go_wp2;by_cases hv:(x k).t<=floor
      .have HN:=Ab (show agO floor x n h k=true by rw[HL.out];exact decide_eq_true hv);have hd:decide (floor<(x k).t)=false:=decide_eq_false Za;refine AP Zc Zc ?_;repeat(go_big_quiet_step(fail))
       refine wpQuiet_nil ?_;rintro w2 ⟨u,hu⟩;have Dq:Below w1.1.size w1 w2:=hu▸u.prop;clear hu u CF;have Ds:=Fp.trans (Dq.mono Za);clear u1 u2 u3 y2;exact xc
      .have HE:=Ab (show DQ now floor m x n h=false by unfold DQ Qg;rw[Bd (p:=agO floor x n h) ic (HL.trans (decide_eq_false hv))];simp);have hd:decide (floor<(x k).t)=true:=decide_eq_true Za;refine AP Zc Zc ?_;repeat(go_big_quiet_step(fail))
       refine wpQuiet_nil ?_;rintro w2 ⟨u,hu⟩;have Dq:Below w1.1.size w1 w2:=hu▸u.prop;clear hu u CF;have Ds:=Fp.trans (Dq.mono Za);clear u1 u2 u3 y2;exact cz
     |some j=>
      have kE:=(Jy I4).1;have Tk:Jg h (x k) n=j:=by unfold Jg;rw[I4]
      have HL:=Ab (show agO floor x n h k=(!(h j).g&&Cv (h j).ob (x k))by unfold agO;rw[I4,bD (h j).ob]);simp only[Tk]at hLU;clear Tk I4;obtain⟨b',off',ah',ch',rfl,z_,SH,cB,hsy⟩:=HC j kE;have hjh:((h j).ob.hn:Int)<=140737488355328:=by have:=(HF j kE).h;omega
      have HSY:=Ab hsy;clear hsy;have hjz:(j:Int)+1<=n:=Za;have hj0:decide ((0:Int)<=(j:Int))=true:=decide_eq_true Za;have Qq:decide ((j:Int)<0)=false:=decide_eq_false Za;refine AP Zc Zc ?_;repeat(go_big_quiet_step((go_at_call 87;go_must(exact B4 (hLU _)))))
      refine wpQuiet_nil ?_;rintro w1 ⟨u,hu⟩;have Lg:Below wr.1.size wr w1:=hu▸u.prop;clear hu u CF hLU z2 z3 x0 x1 x2 x3 x4 x5 x6;have Fp:=hb.trans (Lg.mono Za);have MS:Below w.1.size w w1:=(AC _ _).trans (Fp.mono Za);have C7:wr.1.size<=w1.1.size:=Lg.size;have p1:=(Lg.cell (p:=⟨w.1.size,1,none⟩) Zf).trans o1;have p2:=(Lg.cell (p:=⟨w.1.size,2,none⟩) Zf).trans o2;have p3:=(Lg.cell (p:=⟨w.1.size,3,none⟩) Zf).trans o3;have u1:=Aq p1 Zf;have u2:=Aq p2 Zf;have u3:=Aq p3 Zf;have e0:=(Lg.cell (p:=⟨b,off+k*7,none⟩) Zj).trans d0;have e1:=(Lg.cell (p:=⟨b,off+k*7+1,none⟩) Zj).trans d1;have e2:=(Lg.cell (p:=⟨b,off+k*7+2,none⟩) Zj).trans d2;have e3:=(Lg.cell (p:=⟨b,off+k*7+3,none⟩) Zj).trans d3;have e4:=(Lg.cell (p:=⟨b,off+k*7+4,none⟩) Zj).trans d4;have e5:=(Lg.cell (p:=⟨b,off+k*7+5,none⟩) Zj).trans d5;have e6:=(Lg.cell (p:=⟨b,off+k*7+6,none⟩) Zj).trans d6;have xx0:=Aq e0 Zj;have xx1:=Aq e1 Zj;have xx2:=Aq e2 Zj;have xx3:=Aq e3 Zj;have xx4:=Aq e4 Zj;have xx5:=Aq e5 Zj;have xx6:=Aq e6 Zj;obtain⟨f0,f1,f2,f3,f4,f5,f6,f7,f8⟩:=cB.below MS Za;have y2:=Aq f2 Zz;have y3:=Aq f3 Zz;have y4:=Aq f4 Zz;have y5:=Aq f5 Zz;have y6:=Aq f6 Zz;have y7:=Aq f7 Zz;have y8:=Aq f8 Zz;have CF:Nonempty (GW w1):=⟨⟨_,Ap _ _⟩⟩;have Ahz:hi<=w1.1.size:=Za;have im:∀u:GW w1,hi<=u.val.1.size:=λu=>AJ Ahz u.prop.size;have Un:∀u:GW w1,AK u.val lo hi ah (x k).hn (x k).hs:=λu=>HS.below (MS.trans (u.prop.mono Za)) CD;have lS:∀u:GW w1,AK u.val lo hi ah' (h j).ob.hn (h j).ob.hs:=λu=>HSY.below (MS.trans (u.prop.mono Za)) CD;have hSU:∀u:GW w1,Calls prog 89 #[.agg (vO (h j).ob ah' ch'),.agg (vO (x k) ah ch)] u.val λe w'=>e=.returned (.bool (Cv (h j).ob (x k)))/\Below u.val.1.size u.val w':=λu=>aL (h j).ob (x k) ah' ah ch' ch _ lo hi (im u) hjh hxh (lS u) (Un u);clear d0 d1 d2 d3 d4 d5 d6 o0 o1 o2 o3 o4 p1 p2 p3 e0 e1 e2 e3 e4 e5 e6 Lg cB f0 f2 f3 f4 f5 f6 f7 f8 im Un lS;go_wp2;cases hg:(h j).g with
      |true=>have HE:=Ab (show DQ now floor m x n h=false by unfold DQ Qg;rw[Bd (p:=agO floor x n h) ic (HL.trans (by rw[hg];rfl))];simp);rw[hg]at f1;have v1:=Aq f1 Zz;clear hg f1;exact Afb
      |false=>rw[hg]at f1;have v1:=Aq f1 Zz;have I5:=Ab (show agO floor x n h k=Cv (h j).ob (x k)by rw[HL.out,hg];rfl);clear hg f1;cases jq:Cv (h j).ob (x k)with
       |false=>have HE:=Ab (show DQ now floor m x n h=false by unfold DQ Qg;rw[Bd (p:=agO floor x n h) ic (I5.trans jq)];simp);simp only[jq]at hSU;clear jq;exact Afb
       |true=>
        have HN:=Ab (I5.trans jq);simp only[jq]at hSU;clear jq;refine AP Zc Zc ?_;repeat(go_big_quiet_step((go_at_call 89;go_must(exact B4 (hSU _)))))
        refine wpQuiet_nil ?_;rintro w2 ⟨u,hu⟩;have Dq:Below w1.1.size w1 w2:=hu▸u.prop;clear hu u CF;have Ds:=Fp.trans (Dq.mono Za);clear u1 u2 u3 v1 hSU xx0 xx1 xx2 xx3 xx4 xx5 xx6 y2 y3 y4 y5 y6 y7 y8;exact xc
    .have:m=k:=Za;subst this;have HO2:=Ab (show Bj (agO floor x n h) m=true from AS.2 Bg);clear Bg;go_wp2;clear o0 o1 o2 o3 o4;obtain⟨V,hV⟩:∃V,V=wr:=⟨wr,rfl⟩;subst hV;go_loopw[9](λi wq=>∃k:Nat,k<=n/\i=.i k/\Below (w.1.size+1) (w.alloc (.cells #[.i now,.i floor,.l a1 m c1,.l a2 n c2,.l a3 n3 c3] 36)) wq/\∀j,j<k->agH m x n h j=true)(λi _=>n-(intOf i).toNat);case atStart=>exact⟨0,Ar _,rfl,hb,λj hj=>absurd hj (Ae _)⟩
     case round=>
      obtain⟨k,cC,rfl,hb,Bg⟩:=hrel;have IK:Below w.1.size w wr:=(AC _ _).trans (hb.mono Za);have JP:w.1.size+1<=wr.1.size:=by have:=hb.size;simpa using this
      have hwz:w.1.size<wr.1.size:=Za;have Tn:hi<=wr.1.size:=Za;have o0:=Ay Zp 0;have o1:=Ay Zp 1;have o2:=Ay Zp 2;have o3:=Ay Zp 3;have o4:=Ay Zp 4;simp only[Ah,Ai,Af]at o0 o1 o2 o3 o4;by_cases WJ:k<n
      .obtain⟨b,off,ah,ch,rfl,Gc,Ja,Dh,Il⟩:=hc k WJ;obtain⟨d0,d1,d2,d3,d4,d5,d6,d7,d8⟩:=Dh.below IK Za;obtain⟨i',kg⟩:=Yr (h:=h) WJ;have Tk:Jg h (h k).ob n=i':=by unfold Jg;rw[kg]
       have HLL:=Ab kg;have Cs:=(Jy kg).1;have hL:=M2 n n h (h k).ob (some ⟨b,off,none⟩) ah c2 ch (wr.alloc (.cells (vH (h k) ah ch) 54)) lo hi Zd hl A9 (hc.below (IK.alloc IK.size _) CD);rw[Tk]at hL;have HA:=Ab Bg;have HCO:=Ab kA;have HX:=Ab hx;clear Tk kg Bg hc hf Dh Il kA hx;go_wp2_with fail;refine hL.mono ?_;rintro e w1 ⟨rfl,AU⟩;clear hL;have Fp:Below (w.1.size+1) (w.alloc (.cells #[.i now,.i floor,.l a1 m c1,.l (some ⟨b,off,none⟩) n c2,.l a3 n3 c3] 36)) w1:=(hb.alloc JP _).trans (AU.mono Zd);have MS:Below w.1.size w w1:=(AC _ _).trans (Fp.mono Za);have C7:wr.1.size+1<=w1.1.size:=by have:=AU.size;simp at this;omega
       have p1:=Ay AU 1;have p2:=Ay AU 2;have p3:=Ay AU 3;have o0:=Ay iY 0;have o1:=Ay iY 1;have o2:=Ay iY 2;have o3:=Ay iY 3;have o4:=Ay iY 4;simp only[Ah,Ai,Af]at p1 p2 p3 o0 o1 o2 o3 o4;clear d0 d1 d2 d3 d4 d5 d6 d7 d8 AU;by_cases uu:i'=k;case neg=>
        have HN:=Ab (show agH m x n h k=true by unfold agH;rw[HLL.out];simp[uu]);have hd:((i':Int) !=(k:Int))=true:=Zd;have jy:¬(i':Int)=(k:Int):=Za;clear uu;go_wp2;go_roundw;case rel=>exact⟨k+1,Za,by go_num,Fp,λj hj=>(by
         rcases AD j k with h3|h3;.exact HA j h3
         .have:j=k:=Za;subst this;exact HN)⟩
        case measure=>simp[intOf];omega
       subst uu;cases hg:(h i').g with
       |true=>
        have HN:=Ab (show agH m x n h i'=true by unfold agH;rw[hg];simp);rw[hg]at p1;clear hg;go_wp2;go_roundw;case rel=>exact⟨i'+1,Za,by go_num,Fp,λj hj=>(by
         rcases AD j i' with h3|h3;.exact HA j h3
         .have:j=i':=Za;subst this;exact HN)⟩
        case measure=>simp[intOf];omega
       |false=>rw[hg]at p1;have HG:=Ab hg;clear hg;have hS:=Ce now floor m x a1 (some ⟨b,off,none⟩) a3 c1 n c2 n3 c3 (h i').ob.k (h i').ob.n w1 lo hi Za hm HX (HCO.below MS CD);cases Pd:CC x (h i').ob.k (h i').ob.n m with
        |false=>have HE:=Ab (show DQ now floor m x n h=false by unfold DQ Qg;rw[Bd (p:=agH m x n h) WJ (show agH m x n h i'=false by unfold agH;rw[HLL.out,HG.out,show(LP x (h i').ob.k (h i').ob.n m).isSome=false from Pd];simp)];simp);rw[Pd]at hS;clear Pd;go_wp2_with fail;refine hS.mono ?_;rintro e w2 ⟨ad',cap',rfl,_,_,BT⟩;have Ds:=Fp.trans (BT.mono Za);clear hS BT;go_wp2;go_ret;exact⟨A7 HE.symm,((AC _ _).trans (Ds.mono Za)).alloc (by have:=Ds.size;simp at this;omega) _⟩
        |true=>
         have HN:=Ab (show agH m x n h i'=true by unfold agH;rw[show(LP x (h i').ob.k (h i').ob.n m).isSome=true from Pd];simp);rw[Pd]at hS;clear Pd;go_wp2_with fail;refine hS.mono ?_;rintro e w2 ⟨ad',cap',rfl,_,_,BT⟩;have Ds:=Fp.trans (BT.mono Za);have Fk:w.1.size+1<=w2.1.size:=by have:=Ds.size;simp at this;omega
         clear hS BT;go_wp2;go_roundw;case rel=>exact⟨i'+1,Za,by go_num,(Ds.alloc Fk _),λj hj=>(by
          rcases AD j i' with h3|h3;.exact HA j h3
          .have:j=i':=Za;subst this;exact HN)⟩
         case measure=>simp[intOf];omega
      .have HE:=Ab (show DQ now floor m x n h=true by unfold DQ Qg;rw[decide_eq_true (show n<=200 by omega),decide_eq_true HNF.out,gO.out,HO2.out,AS.2 (λi hi=>Bg i Za)];rfl);clear Bg hc hf kA hx;exact eM
def kN (B:Bk):Bool:=K8 B.v B.f&&(Hu B.on B.os B.v&&(DQ B.v B.f B.on B.os B.hn B.hs&&Oa B.tn B.ts B.v))
theorem O3 (p q:Nat->Bool):∀n,Bj (λi=>p i&&q i) n=(Bj p n&&Bj q n)
 |0=>rfl
 |n+1=>by simp only[Bj,O3 p q n];cases Bj p n<;>cases Bj q n<;>cases p n<;>cases q n<;>rfl
theorem td (n:Nat)(x:Nat->Ob)(now:Int):Hu n x now=(EF n x now&&Es n x):=by unfold Hu EF;cases decide (n<=100)<;>cases GT n x<;>cases JG n x now<;>cases Es n x<;>rfl
theorem ru (now floor:Int)(m:Nat)(x:Nat->Ob)(n:Nat)(h:Nat->Ch):DQ now floor m x n h=(Ge now floor n h&&(Bj (IU floor h) n&&Qg floor m x n h)):=by
 have h1:Bj (Iv now floor h) n=(Bj (λi=>decide ((h i).t=floor+1+i)&&GS (h i) now) n&&Bj (IU floor h) n):=by rw[<-O3];exact congrArg (λp=>Bj p n) (funext λi=>by unfold Iv;cases decide ((h i).t=floor+1+i)<;>cases GS (h i) now<;>cases IU floor h i<;>rfl)
 unfold DQ Ge;rw[h1];cases decide (n<=200)<;>cases decide ((n:Int)=now-floor)<;>cases Bj (λi=>decide ((h i).t=floor+1+i)&&GS (h i) now) n<;>cases Bj (IU floor h) n<;>cases Qg floor m x n h<;>rfl
theorem lx (n:Nat)(x:Nat->Ti)(now:Int):Oa n x now=Iz n x now:=by
 unfold Oa Iz;have h1:Bj (O5 x now) n=(Bj (λi=>Mc (x i) now) n&&Bj (λi=>i==0||Gt (x (i-1)).c (x i).c) n):=by rw[<-O3];rfl
 rw[h1];unfold Pv;cases decide (n<=50)<;>cases Bj (λi=>Mc (x i) now) n<;>cases Bj (λi=>i==0||Gt (x (i-1)).c (x i).c) n<;>rfl
theorem xW (B:Bk):kN B=Bj (ID B) 7:=by unfold kN;rw[td,ru,lx];simp only[Bj,ID];cases K8 B.v B.f<;>cases EF B.on B.os B.v<;>cases Es B.on B.os<;>cases Ge B.v B.f B.hn B.hs<;>cases Bj (IU B.f B.hs) B.hn<;>cases Qg B.f B.on B.os B.hn B.hs<;>cases Iz B.tn B.ts B.v<;>rfl
theorem EE (B:Bk)(a1 a2 a3:OA)(c1 c2 c3:Nat)(w:World)(lo hi:Nat)(CD:hi<=w.1.size)(BG:BS B)(Cs:BL w lo hi B a1 a2 a3):Calls prog 34 #[.agg (vB B a1 a2 a3 c1 c2 c3)] w λe w'=>e=.returned (.bool (Bj (ID B) 7))/\Below w.1.size w w':=by rw[<-xW];obtain⟨f1,f2,f3,f4,f5,f6⟩:=BG;cases h1:G6 B.v 0 1000000 with
 |false=>have HE:=Ab (show kN B=false by unfold kN K8;rw[h1];rfl);go_enter func34,ntmps34;go_wp2_with (go_at_call 62;refine(FK _ _ _ _).mono ?_;rintro e w1 ⟨rfl,rfl⟩;rw[h1]);exact Kx
 |true=>cases h2:G6 B.f 0 B.v with
 |false=>have HE:=Ab (show kN B=false by unfold kN K8;rw[h2];simp);go_enter func34,ntmps34;go_wp2_with (go_at_call 62;refine(FK _ _ _ _).mono ?_;rintro e w1 ⟨rfl,rfl⟩;first|rw[h1]|rw[h2]);exact Kx
 |true=>have HN:=Ab (show K8 B.v B.f=true by unfold K8;rw[h1,h2];rfl);obtain⟨n1,n2,n3⟩:=NW HN;have N1:=Ab n1;have N2:=Ab n2;have N3:=Ab n3;clear n1 n2 n3;have hA:=Ab (show BL (w.alloc (.cells (vB B a1 a2 a3 c1 c2 c3) 36)) lo hi B a1 a2 a3 from Cs.below (AC _ _) CD);clear Cs;go_enter func34,ntmps34;go_wp2_with (go_at_call 62;refine(FK _ _ _ _).mono ?_;rintro e w1 ⟨rfl,rfl⟩;first|rw[h1]|rw[h2]);refine(Vr B.v B.f B.on B.os a1 a2 a3 c1 B.hn c2 B.tn c3 _ lo hi Zd Za f4 hA.o).mono ?_;rintro e w1 ⟨rfl,AU⟩;cases ho:Hu B.on B.os B.v with
 |false=>have HE:=Ab (show kN B=false by unfold kN;rw[ho];simp);go_wp2;exact jL
 |true=>
 have HO:=Ab ho;have p0:=Ay AU 0;have p1:=Ay AU 1;have p2:=Ay AU 2;have p3:=Ay AU 3;have p4:=Ay AU 4;simp only[Ah,Ai,Af]at p0 p1 p2 p3 p4;have C7:w.1.size<w1.1.size:=by have:=AU.size;simp at this;omega
 have Sr:=Ab (hA.below AU Zd);have Fp:Below w.1.size w w1:=(AC _ _).trans (AU.mono Ze);clear AU hA ho;go_wp2_with fail;refine(Vt B.v B.f B.on B.hn B.os B.hs a1 a2 a3 c1 c2 B.tn c3 w1 lo hi Za Za Za N1 N2 N3 f4 f5 Sr.o Sr.h).mono ?_;rintro e w2 ⟨rfl,BT⟩;cases hh:DQ B.v B.f B.on B.os B.hn B.hs with
 |false=>have HE:=Ab (show kN B=false by unfold kN;rw[hh];simp);go_wp2;go_ret;exact⟨A7 HE.symm,Fp.trans (BT.mono Za)⟩
 |true=>
 have HH:=Ab hh;have q0:=(BT.cell (p:=⟨w.1.size,0,none⟩) C7).trans p0;have q1:=(BT.cell (p:=⟨w.1.size,1,none⟩) C7).trans p1;have q2:=(BT.cell (p:=⟨w.1.size,2,none⟩) C7).trans p2;have q3:=(BT.cell (p:=⟨w.1.size,3,none⟩) C7).trans p3;have q4:=(BT.cell (p:=⟨w.1.size,4,none⟩) C7).trans p4;have VJ:=Ab (Sr.below BT Za);have Ds:Below w.1.size w w2:=Fp.trans (BT.mono Za);have Fk:w.1.size<w2.1.size:=by have:=BT.size;omega
 clear BT Sr hh p0 p1 p2 p3 p4;go_wp2_with fail;refine(Vj B.v B.f B.tn B.ts a1 a2 a3 B.on c1 B.hn c2 c3 w2 lo hi Za Za f6 VJ.t).mono ?_;rintro e w3 ⟨rfl,C6⟩;have HE:=Ab (show kN B=Oa B.tn B.ts B.v by unfold kN;rw[HN.out,HO.out,HH.out];rfl);clear q0 q1 q2 q3 q4;go_wp2;go_ret;exact⟨A7 HE.symm,Ds.trans (C6.mono Za)⟩
end Go.Proofs.YtdknjmgdgnmhjaaGreat
