import Derived.Test.YtnnjcenacidceaaGreatPk13
set_option maxRecDepth 100000
set_option maxHeartbeats 1000000
namespace Go.Proofs.YtnnjcenacidceaaGreat
open Go.RowKit Go.Maps Go.Proofs.Tryz
def NH (t:Ti)(now:Int):Bool:=BB t.client&&(EX t.num 1 1000000&&(decide (t.print.size=8)&&(EX t.code 0 9&&EX t.ver 0 now)))
theorem iI{P:Prop}(h:P:=by go_enter func72,ntmps72;go_wp2_with (first|(go_at_call 83;refine(LU _ _ hfc).mono ?_;rintro e w1 ⟨rfl,rfl⟩;rw[hn])|(go_at_call 25;refine(KX _ _ _ _).mono ?_;rintro e w1 ⟨rfl,rfl⟩;first|rw[h1]|rw[h2]|skip));go_ret;exact⟨Az HE.symm,An _ _⟩):P:=h
theorem iM{P:Prop}(h:P:=by go_enter func72,ntmps72;go_wp2_with (first|(go_at_call 83;refine(LU _ _ hfc).mono ?_;rintro e w1 ⟨rfl,rfl⟩;rw[hn])|(go_at_call 25;refine(KX _ _ _ _).mono ?_;rintro e w1 ⟨rfl,rfl⟩;first|rw[h1]|skip));go_ret;exact⟨Az HE.symm,An _ _⟩):P:=h
theorem Rz (t:Ti)(now:Int)(w:World)(hf:VU t):Calls prog 72 #[.agg (vT t),.i now] w λe w'=>e=.returned (.bool (NH t now))/\Below w.1.size w w':=by have hfc:=hf.c;have hfp:=hf.p;cases hn:BB t.client with
 |false=>have HE:=Aj (show NH t now=false by unfold NH;simp[hn]);go_enter func72,ntmps72;go_wp2_with (first|(go_at_call 83;refine(LU _ _ hfc).mono ?_;rintro e w1 ⟨rfl,rfl⟩;rw[hn])|(go_at_call 25;refine(KX _ _ _ _).mono ?_;rintro e w1 ⟨rfl,rfl⟩;skip));go_ret;exact⟨Az HE.symm,An _ _⟩
 |true=>cases h1:EX t.num 1 1000000 with
 |false=>have HE:=Aj (show NH t now=false by unfold NH;simp[hn,h1]);exact iM
 |true=>
 by_cases hp:t.print.size=8;case neg=>have hpz:¬(t.print.size:Int)=8:=Za;have HE:=Aj (show NH t now=false by unfold NH;simp[hn,h1,hp]);exact iM
 have hpz:(t.print.size:Int)=8:=Za;cases h2:EX t.code 0 9 with
 |false=>have HE:=Aj (show NH t now=false by unfold NH;simp[hn,h1,h2,hp]);exact iI
 |true=>have HE:=Aj (show NH t now=EX t.ver 0 now by unfold NH;simp[hn,h1,h2,hp]);exact iI
theorem Px (x z:Ti)(w:World):Calls prog 71 #[.agg (vT x),.agg (vT z)] w λe w'=>e=.returned (.bool (K9 x.client z.client))/\Below w.1.size w w':=by go_enter func71,ntmps71;go_wp2;go_ret;exact⟨rfl,(An _ _).alloc Zc _⟩
def QB (n:Nat)(x:Nat->Ti):Bool:=Bg (λi=>i==0||K9 (x (i-1)).client (x i).client) n
theorem Ty (n:Nat)(x:Nat->Ti)(ad:OA)(cap:Nat)(w:World)(lo hi:Nat)(hhi:hi<=w.1.size)(hl:(n:Int)<=140737488355328)(hc:DY w lo hi ad n x):Calls prog 70 #[.l ad n cap,.func (.func 71) #[] #[]] w λe w'=>e=.returned (.bool (QB n x))/\Below w.1.size w w':=by
 go_enter func70,ntmps70;go_wp2;go_loopw[5](λi wr=>∃k:Nat,1<=k/\(k<=n\/k=1)/\i=.i k/\(∀j,j<k->(j==0||K9 (x (j-1)).client (x j).client)=true)/\Below w.1.size w wr)(λi _=>n-(intOf i).toNat);case atStart=>exact⟨1,AG _,AE rfl,rfl,λj hj=>(by have:j=0:=Za;subst this;rfl),Aq _ _⟩
 case round=>
  obtain⟨k,hk1,hk,rfl,hall,hb⟩:=hrel;by_cases hkn:k<n
  .obtain⟨m,rfl⟩:∃m,k=m+1:=⟨k-1,Za⟩;obtain⟨b,off,rfl,hlo,hbh,hcx⟩:=hc (m+1) hkn;obtain⟨b',off',e,_,hbh',hcm⟩:=hc m Za;cases e;obtain⟨d0,d1,d2,d3,d4⟩:=hcx.below hb Za;obtain⟨q0,q1,q2,q3,q4⟩:=hcm.below hb Za;have hbw:b<wr.1.size:=by have:=hb.size;omega
   have rd0:=Ak d0 hbw;have rd1:=Ak d1 hbw;have rd2:=Ak d2 hbw;have rd3:=Ak d3 hbw;have rd4:=Ak d4 hbw;have rp0:=Ak q0 hbw;have rp1:=Ak q1 hbw;have rp2:=Ak q2 hbw;have rp3:=Ak q3 hbw;have rp4:=Ak q4 hbw;have hne:Nonempty (GW wr):=⟨⟨wr,Aq _ _⟩⟩;have HA:=Aj hall;have hkz:(m:Int)+1<=n:=Za;clear hall hc hk hcx hcm d0 d1 d2 d3 d4 q0 q1 q2 q3 q4;cases hlt:K9 (x m).client (x (m+1)).client with
   |false=>
    have HE:=Aj (show QB n x=false from A9 (p:=λi=>i==0||K9 (x (i-1)).client (x i).client) hkn (by simp[hlt]));go_wp2;refine AI Ze Ze ?_;repeat(go_big_quiet_step((go_at_call 71;go_must(exact Bm (Px (x m) (x (m+1)) _)))))
    refine wpQuiet_nil ?_;rintro w2 ⟨u,hu⟩;have hw2:Below wr.1.size wr w2:=hu▸u.prop;clear hu u;go_wp2;go_ret;exact⟨Az HE.symm,hb.trans (hw2.mono hb.size)⟩
   |true=>
    have HN:=Aj (show(m+1==0||K9 (x (m+1-1)).client (x (m+1)).client)=true by simp[hlt]);go_wp2;refine AI Ze Ze ?_;repeat(go_big_quiet_step((go_at_call 71;go_must(exact Bm (Px (x m) (x (m+1)) _)))))
    refine wpQuiet_nil ?_;rintro w2 ⟨u,hu⟩;have hw2:Below wr.1.size wr w2:=hu▸u.prop;clear hu u;go_wp2;go_roundw;case rel=>exact⟨m+2,Za,AB Za,by go_num,λj hj=>(by
     rcases Aw j (m+1)with h3|h3;.exact HA j h3
     .have:j=m+1:=Za;subst this;exact HN),hb.trans (hw2.mono hb.size)⟩
    case measure=>simp[intOf];omega
  .have HE:=Aj (show QB n x=true from AV.2 (λi hi=>hall i Za));clear hall hc hk;go_wp2;go_ret;exact⟨Az HE.symm,hb⟩
def LS (n:Nat)(x:Nat->Ti)(now:Int):Bool:=decide (n<=50)&&(QB n x&&Bg (λi=>NH (x i) now) n)
theorem Qp (now floor:Int)(n:Nat)(x:Nat->Ti)(a1 a2 a3:OA)(n1 c1 n2 c2 c3:Nat)(w:World)(lo hi:Nat)(hhi:hi<=w.1.size)(hl:(n:Int)<=1099511627776)(hf:∀i,i<n->VU (x i))(hc:DY w lo hi a3 n x):Calls prog 36 #[.agg #[.i now,.i floor,.l a1 n1 c1,.l a2 n2 c2,.l a3 n c3]] w λe w'=>e=.returned (.bool (LS n x now))/\Below w.1.size w w':=by
 have hcA:=λo=>hc.below (An w o) hhi;by_cases h50:(50:Int)<n;.have HE:=Aj (show LS n x now=false by unfold LS;rw[decide_eq_false Za];rfl);go_enter func36,ntmps36;go_wp2;go_ret;exact⟨Az HE.symm,An _ _⟩
 cases ha:QB n x with
 |false=>have HE:=Aj (show LS n x now=false by unfold LS;rw[ha];simp);go_enter func36,ntmps36;go_wp2_with (go_at_call 70;refine(Ty n x a3 c3 _ lo hi Zd Za (hcA _)).mono ?_;rintro e w1 ⟨rfl,hb1⟩);go_ret;exact⟨Az HE.symm,(An _ _).trans (hb1.mono Zc)⟩
 |true=>
  have sV:=Aj ha;go_enter func36,ntmps36;go_wp2_with (go_at_call 70;refine(Ty n x a3 c3 _ lo hi Zd Za (hcA _)).mono ?_;rintro e w1 ⟨rfl,hb1⟩;have k0:=Au hb1 0;have k4:=Au hb1 4;simp only[Ag,Af,Ae]at k0 k4;have hB1:Below w.1.size w w1:=(An _ _).trans (hb1.mono Zc);have hz1:w.1.size<w1.1.size:=(by have:=hb1.size;simp at this;omega);clear hb1);go_loopw[18](λi wr=>∃k:Nat,k<=n/\i=.i k/\(∀j,j<k->NH (x j) now=true)/\Below w.1.size w wr/\w.1.size<wr.1.size/\wr.cell? ⟨w.1.size,0,none⟩=some (.i now))(λi _=>n-(intOf i).toNat);case atStart=>exact⟨0,At _,rfl,λj hj=>absurd hj (Ai _),hB1,hz1,k0⟩
  case round=>
   obtain⟨k,hk,rfl,hall,hb,hz,hb0⟩:=hrel;by_cases hkn:k<n;.obtain⟨b,off,rfl,hlo,hbh,hcx⟩:=hc k hkn;have hfk:=hf k hkn;obtain⟨d0,d1,d2,d3,d4⟩:=hcx.below hb Za;have HA:=Aj hall;clear hall hc hf hcx hcA k0 k4 hB1 hz1 ha;cases hp:NH (x k) now with
    |false=>have HE:=Aj (show LS n x now=false by unfold LS;rw[A9 (p:=λi=>NH (x i) now) hkn hp];simp);go_wp2_with (go_at_call 72;refine(Rz (x k) now _ hfk).mono ?_;rintro e w2 ⟨rfl,hb2⟩;rw[hp]);go_ret;exact⟨Az HE.symm,(hb.alloc hb.size _).trans (hb2.mono Zy)⟩
    |true=>
     have HP:=Aj hp;go_wp2_with (go_at_call 72;refine(Rz (x k) now _ hfk).mono ?_;rintro e w2 ⟨rfl,hb2⟩;rw[hp]);have hB2:Below w.1.size w w2:=(hb.alloc hb.size _).trans (hb2.mono Zy);have hz2:w.1.size<w2.1.size:=by have:=hb2.size;simp at this;omega
     have h00:w2.cell? ⟨w.1.size,0,none⟩=some (.i now):=(hb2.cell (p:=⟨w.1.size,0,none⟩) Zd).trans ((As _ _ _ hz).trans hb0);go_roundw;case rel=>exact⟨k+1,Za,by go_num,λj hj=>(by
      rcases Aw j k with h3|h3;.exact HA j h3
      .have:j=k:=Za;subst this;exact HP),hB2,hz2,h00⟩
     case measure=>simp[intOf];omega
   .have HE:=Aj (show LS n x now=true by unfold LS;rw[sV.out,decide_eq_true (show n<=50 by omega),AV.2 (λi hi=>hall i Za)];rfl);clear hall hc hf hcA;go_wp2;go_ret;exact⟨Az HE.symm,hb⟩
def No (now floor:Int):Bool:=EX now 0 1000000&&EX floor 0 now
theorem fD{P:Prop}(h:P:=by go_enter func30,ntmps30;go_wp2_with (go_at_call 25;refine(KX _ _ _ _).mono ?_;rintro e w1 ⟨rfl,rfl⟩;first|rw[h1]|skip);go_ret;exact⟨Az HE.symm,An _ _⟩):P:=h
theorem Qq (now floor:Int)(a1 a2 a3:OA)(n1 c1 n2 c2 n c3:Nat)(w:World):Calls prog 30 #[.agg #[.i now,.i floor,.l a1 n1 c1,.l a2 n2 c2,.l a3 n c3]] w λe w'=>e=.returned (.bool (No now floor))/\Below w.1.size w w':=by cases h1:EX now 0 1000000 with
 |false=>have HE:=Aj (show No now floor=false by unfold No;rw[h1];rfl);exact fD
 |true=>have HE:=Aj (show No now floor=EX floor 0 now by unfold No;rw[h1];rfl);exact fD
end Go.Proofs.YtnnjcenacidceaaGreat
