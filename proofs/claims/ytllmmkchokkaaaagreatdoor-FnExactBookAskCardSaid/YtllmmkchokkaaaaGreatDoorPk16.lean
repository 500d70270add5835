import Derived.Test.YtllmmkchokkaaaaGreatDoorPk15
set_option maxRecDepth 100000
set_option maxHeartbeats 1000000
namespace Go.Proofs.YtllmmkchokkaaaaGreatDoor
open Go.RowKit Go.Maps Go.Proofs.Tryz
def L4 (t:Ti)(now:Int):Bool:=Bv t.client&&(DU t.num 1 1000000&&(decide (t.print.size=8)&&(DU t.code 0 9&&DU t.ver 0 now)))
theorem fH{P:Prop}(h:P:=by go_enter func147,ntmps147;go_wp2_with (first|(go_at_call 90;refine(CC _ _ hfc).mono ?_;rintro e w1 ⟨rfl,rfl⟩;rw[hn])|(go_at_call 118;refine(Dz _ _ _ _).mono ?_;rintro e w1 ⟨rfl,rfl⟩;first|rw[h1]|rw[h2]|skip));go_ret;exact⟨Av HE.symm,An _ _⟩):P:=h
theorem aS{P:Prop}(h:P:=by go_enter func147,ntmps147;go_wp2_with (first|(go_at_call 90;refine(CC _ _ hfc).mono ?_;rintro e w1 ⟨rfl,rfl⟩;rw[hn])|(go_at_call 118;refine(Dz _ _ _ _).mono ?_;rintro e w1 ⟨rfl,rfl⟩;first|rw[h1]|skip));go_ret;exact⟨Av HE.symm,An _ _⟩):P:=h
theorem Pk (t:Ti)(now:Int)(w:World)(hf:KA t):Calls prog 147 #[.agg (vT t),.i now] w λe w'=>e=.returned (.bool (L4 t now))/\Below w.1.size w w':=by have hfc:=hf.c;have hfp:=hf.p;cases hn:Bv t.client with
 |false=>have HE:=Ai (show L4 t now=false by unfold L4;simp[hn]);go_enter func147,ntmps147;go_wp2_with (first|(go_at_call 90;refine(CC _ _ hfc).mono ?_;rintro e w1 ⟨rfl,rfl⟩;rw[hn])|(go_at_call 118;refine(Dz _ _ _ _).mono ?_;rintro e w1 ⟨rfl,rfl⟩;skip));go_ret;exact⟨Av HE.symm,An _ _⟩
 |true=>cases h1:DU t.num 1 1000000 with
 |false=>have HE:=Ai (show L4 t now=false by unfold L4;simp[hn,h1]);exact aS
 |true=>
 by_cases hp:t.print.size=8;case neg=>have hpz:¬(t.print.size:Int)=8:=Za;have HE:=Ai (show L4 t now=false by unfold L4;simp[hn,h1,hp]);exact aS
 have hpz:(t.print.size:Int)=8:=Za;cases h2:DU t.code 0 9 with
 |false=>have HE:=Ai (show L4 t now=false by unfold L4;simp[hn,h1,h2,hp]);exact fH
 |true=>have HE:=Ai (show L4 t now=DU t.ver 0 now by unfold L4;simp[hn,h1,h2,hp]);exact fH
theorem Mj (x z:Ti)(w:World):Calls prog 146 #[.agg (vT x),.agg (vT z)] w λe w'=>e=.returned (.bool (D4 x.client z.client))/\Below w.1.size w w':=by go_enter func146,ntmps146;go_wp2;go_ret;exact⟨rfl,(An _ _).alloc Ze _⟩
def QC (n:Nat)(x:Nat->Ti):Bool:=Bi (λi=>i==0||D4 (x (i-1)).client (x i).client) n
theorem QR (n:Nat)(x:Nat->Ti)(ad:OA)(cap:Nat)(w:World)(lo hi:Nat)(hhi:hi<=w.1.size)(hl:(n:Int)<=140737488355328)(hc:B8 w lo hi ad n x):Calls prog 145 #[.l ad n cap,.func (.func 146) #[] #[]] w λe w'=>e=.returned (.bool (QC n x))/\Below w.1.size w w':=by
 go_enter func145,ntmps145;go_wp2;go_loopw[5](λi wr=>∃k:Nat,1<=k/\(k<=n\/k=1)/\i=.i k/\(∀j,j<k->(j==0||D4 (x (j-1)).client (x j).client)=true)/\Below w.1.size w wr)(λi _=>n-(intOf i).toNat);case atStart=>exact⟨1,Aw _,Ax rfl,rfl,λj hj=>(by have:j=0:=Za;subst this;rfl),Ak _ _⟩
 case round=>
  obtain⟨k,hk1,hk,rfl,hall,hb⟩:=hrel;by_cases hkn:k<n
  .obtain⟨m,rfl⟩:∃m,k=m+1:=⟨k-1,Za⟩;obtain⟨b,off,rfl,hlo,hbh,hcx⟩:=hc (m+1) hkn;obtain⟨b',off',e,_,hbh',hcm⟩:=hc m Za;cases e;obtain⟨d0,d1,d2,d3,d4⟩:=hcx.below hb Za;obtain⟨q0,q1,q2,q3,q4⟩:=hcm.below hb Za;have hbw:b<wr.1.size:=by have:=hb.size;omega
   have rd0:=Aj d0 hbw;have rd1:=Aj d1 hbw;have rd2:=Aj d2 hbw;have rd3:=Aj d3 hbw;have rd4:=Aj d4 hbw;have rp0:=Aj q0 hbw;have rp1:=Aj q1 hbw;have rp2:=Aj q2 hbw;have rp3:=Aj q3 hbw;have rp4:=Aj q4 hbw;have hne:Nonempty (GW wr):=⟨⟨wr,Ak _ _⟩⟩;have HA:=Ai hall;have hkz:(m:Int)+1<=n:=Za;clear hall hc hk hcx hcm d0 d1 d2 d3 d4 q0 q1 q2 q3 q4;cases hlt:D4 (x m).client (x (m+1)).client with
   |false=>
    have HE:=Ai (show QC n x=false from A9 (p:=λi=>i==0||D4 (x (i-1)).client (x i).client) hkn (by simp[hlt]));go_wp2;refine Ay Zc Zc ?_;repeat(go_big_quiet_step((go_at_call 146;go_must(exact AY (Mj (x m) (x (m+1)) _)))))
    refine wpQuiet_nil ?_;rintro w2 ⟨u,hu⟩;have hw2:Below wr.1.size wr w2:=hu▸u.prop;clear hu u;go_wp2;go_ret;exact⟨Av HE.symm,hb.trans (hw2.mono hb.size)⟩
   |true=>
    have HN:=Ai (show(m+1==0||D4 (x (m+1-1)).client (x (m+1)).client)=true by simp[hlt]);go_wp2;refine Ay Zc Zc ?_;repeat(go_big_quiet_step((go_at_call 146;go_must(exact AY (Mj (x m) (x (m+1)) _)))))
    refine wpQuiet_nil ?_;rintro w2 ⟨u,hu⟩;have hw2:Below wr.1.size wr w2:=hu▸u.prop;clear hu u;go_wp2;go_roundw;case rel=>exact⟨m+2,Za,AD Za,by go_num,λj hj=>(by
     rcases As j (m+1)with h3|h3;.exact HA j h3
     .have:j=m+1:=Za;subst this;exact HN),hb.trans (hw2.mono hb.size)⟩
    case measure=>simp[intOf];omega
  .have HE:=Ai (show QC n x=true from Bm.2 (λi hi=>hall i Za));clear hall hc hk;go_wp2;go_ret;exact⟨Av HE.symm,hb⟩
def Ku (n:Nat)(x:Nat->Ti)(now:Int):Bool:=decide (n<=50)&&(QC n x&&Bi (λi=>L4 (x i) now) n)
theorem NH (now floor:Int)(n:Nat)(x:Nat->Ti)(a1 a2 a3:OA)(n1 c1 n2 c2 c3:Nat)(w:World)(lo hi:Nat)(hhi:hi<=w.1.size)(hl:(n:Int)<=1099511627776)(hf:∀i,i<n->KA (x i))(hc:B8 w lo hi a3 n x):Calls prog 89 #[.agg #[.i now,.i floor,.l a1 n1 c1,.l a2 n2 c2,.l a3 n c3]] w λe w'=>e=.returned (.bool (Ku n x now))/\Below w.1.size w w':=by
 have hcA:=λo=>hc.below (An w o) hhi;by_cases h50:(50:Int)<n;.have HE:=Ai (show Ku n x now=false by unfold Ku;rw[decide_eq_false Za];rfl);go_enter func89,ntmps89;go_wp2;go_ret;exact⟨Av HE.symm,An _ _⟩
 cases ha:QC n x with
 |false=>have HE:=Ai (show Ku n x now=false by unfold Ku;rw[ha];simp);go_enter func89,ntmps89;go_wp2_with (go_at_call 145;refine(QR n x a3 c3 _ lo hi Zd Za (hcA _)).mono ?_;rintro e w1 ⟨rfl,hb1⟩);go_ret;exact⟨Av HE.symm,(An _ _).trans (hb1.mono Ze)⟩
 |true=>
  have KN:=Ai ha;go_enter func89,ntmps89;go_wp2_with (go_at_call 145;refine(QR n x a3 c3 _ lo hi Zd Za (hcA _)).mono ?_;rintro e w1 ⟨rfl,hb1⟩;have k0:=Au hb1 0;have k4:=Au hb1 4;simp only[Ah,Ad,Ab]at k0 k4;have hB1:Below w.1.size w w1:=(An _ _).trans (hb1.mono Ze);have hz1:w.1.size<w1.1.size:=(by have:=hb1.size;simp at this;omega);clear hb1);go_loopw[18](λi wr=>∃k:Nat,k<=n/\i=.i k/\(∀j,j<k->L4 (x j) now=true)/\Below w.1.size w wr/\w.1.size<wr.1.size/\wr.cell? ⟨w.1.size,0,none⟩=some (.i now))(λi _=>n-(intOf i).toNat);case atStart=>exact⟨0,Ap _,rfl,λj hj=>absurd hj (Al _),hB1,hz1,k0⟩
  case round=>
   obtain⟨k,hk,rfl,hall,hb,hz,hb0⟩:=hrel;by_cases hkn:k<n;.obtain⟨b,off,rfl,hlo,hbh,hcx⟩:=hc k hkn;have hfk:=hf k hkn;obtain⟨d0,d1,d2,d3,d4⟩:=hcx.below hb Za;have HA:=Ai hall;clear hall hc hf hcx hcA k0 k4 hB1 hz1 ha;cases hp:L4 (x k) now with
    |false=>have HE:=Ai (show Ku n x now=false by unfold Ku;rw[A9 (p:=λi=>L4 (x i) now) hkn hp];simp);go_wp2_with (go_at_call 147;refine(Pk (x k) now _ hfk).mono ?_;rintro e w2 ⟨rfl,hb2⟩;rw[hp]);go_ret;exact⟨Av HE.symm,(hb.alloc hb.size _).trans (hb2.mono Yg)⟩
    |true=>
     have HP:=Ai hp;go_wp2_with (go_at_call 147;refine(Pk (x k) now _ hfk).mono ?_;rintro e w2 ⟨rfl,hb2⟩;rw[hp]);have hB2:Below w.1.size w w2:=(hb.alloc hb.size _).trans (hb2.mono Yg);have hz2:w.1.size<w2.1.size:=by have:=hb2.size;simp at this;omega
     have h00:w2.cell? ⟨w.1.size,0,none⟩=some (.i now):=(hb2.cell (p:=⟨w.1.size,0,none⟩) Zd).trans ((Ar _ _ _ hz).trans hb0);go_roundw;case rel=>exact⟨k+1,Za,by go_num,λj hj=>(by
      rcases As j k with h3|h3;.exact HA j h3
      .have:j=k:=Za;subst this;exact HP),hB2,hz2,h00⟩
     case measure=>simp[intOf];omega
   .have HE:=Ai (show Ku n x now=true by unfold Ku;rw[KN.out,decide_eq_true (show n<=50 by omega),Bm.2 (λi hi=>hall i Za)];rfl);clear hall hc hf hcA;go_wp2;go_ret;exact⟨Av HE.symm,hb⟩
def J9 (now floor:Int):Bool:=DU now 0 1000000&&DU floor 0 now
theorem iA{P:Prop}(h:P:=by go_enter func83,ntmps83;go_wp2_with (go_at_call 118;refine(Dz _ _ _ _).mono ?_;rintro e w1 ⟨rfl,rfl⟩;first|rw[h1]|skip);go_ret;exact⟨Av HE.symm,An _ _⟩):P:=h
theorem NX (now floor:Int)(a1 a2 a3:OA)(n1 c1 n2 c2 n c3:Nat)(w:World):Calls prog 83 #[.agg #[.i now,.i floor,.l a1 n1 c1,.l a2 n2 c2,.l a3 n c3]] w λe w'=>e=.returned (.bool (J9 now floor))/\Below w.1.size w w':=by cases h1:DU now 0 1000000 with
 |false=>have HE:=Ai (show J9 now floor=false by unfold J9;rw[h1];rfl);exact iA
 |true=>have HE:=Ai (show J9 now floor=DU floor 0 now by unfold J9;rw[h1];rfl);exact iA
end Go.Proofs.YtllmmkchokkaaaaGreatDoor
