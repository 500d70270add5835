import Derived.Test.YtnnjcenacidceaaPk13
set_option maxRecDepth 100000
set_option maxHeartbeats 1000000
namespace Go.Proofs.Ytnnjcenacidceaa
open Go.RowKit Go.Maps Go.Proofs.Try
def Nu (t:Ti)(now:Int):Bool:=Bv t.client&&(EG t.num 1 1000000&&(decide (t.print.size=8)&&(EG t.code 0 9&&EG t.ver 0 now)))
theorem cH{P:Prop}(h:P:=by go_enter func58,ntmps58;go_wp2_with (first|(go_at_call 75;refine(LB _ _ hfc).mono ?_;rintro e w1 ⟨rfl,rfl⟩;rw[hn])|(go_at_call 14;refine(KL _ _ _ _).mono ?_;rintro e w1 ⟨rfl,rfl⟩;first|rw[h1]|rw[h2]|skip));go_ret;exact⟨Ay HE.symm,Am _ _⟩):P:=h
theorem fU{P:Prop}(h:P:=by go_enter func58,ntmps58;go_wp2_with (first|(go_at_call 75;refine(LB _ _ hfc).mono ?_;rintro e w1 ⟨rfl,rfl⟩;rw[hn])|(go_at_call 14;refine(KL _ _ _ _).mono ?_;rintro e w1 ⟨rfl,rfl⟩;first|rw[h1]|skip));go_ret;exact⟨Ay HE.symm,Am _ _⟩):P:=h
theorem R8 (t:Ti)(now:Int)(w:World)(hf:UF t):Calls prog 58 #[.agg (vT t),.i now] w λe w'=>e=.returned (.bool (Nu t now))/\Below w.1.size w w':=by have hfc:=hf.c;have hfp:=hf.p;cases hn:Bv t.client with
 |false=>have HE:=Ah (show Nu t now=false by unfold Nu;simp[hn]);go_enter func58,ntmps58;go_wp2_with (first|(go_at_call 75;refine(LB _ _ hfc).mono ?_;rintro e w1 ⟨rfl,rfl⟩;rw[hn])|(go_at_call 14;refine(KL _ _ _ _).mono ?_;rintro e w1 ⟨rfl,rfl⟩;skip));go_ret;exact⟨Ay HE.symm,Am _ _⟩
 |true=>cases h1:EG t.num 1 1000000 with
 |false=>have HE:=Ah (show Nu t now=false by unfold Nu;simp[hn,h1]);exact fU
 |true=>
 by_cases hp:t.print.size=8;case neg=>have hpz:¬(t.print.size:Int)=8:=Za;have HE:=Ah (show Nu t now=false by unfold Nu;simp[hn,h1,hp]);exact fU
 have hpz:(t.print.size:Int)=8:=Za;cases h2:EG t.code 0 9 with
 |false=>have HE:=Ah (show Nu t now=false by unfold Nu;simp[hn,h1,h2,hp]);exact cH
 |true=>have HE:=Ah (show Nu t now=EG t.ver 0 now by unfold Nu;simp[hn,h1,h2,hp]);exact cH
theorem O4 (x z:Ti)(w:World):Calls prog 57 #[.agg (vT x),.agg (vT z)] w λe w'=>e=.returned (.bool (KW x.client z.client))/\Below w.1.size w w':=by go_enter func57,ntmps57;go_wp2;go_ret;exact⟨rfl,(Am _ _).alloc Zc _⟩
def PQ (n:Nat)(x:Nat->Ti):Bool:=Bc (λi=>i==0||KW (x (i-1)).client (x i).client) n
theorem SV (n:Nat)(x:Nat->Ti)(ad:OA)(cap:Nat)(w:World)(lo hi:Nat)(hhi:hi<=w.1.size)(hl:(n:Int)<=140737488355328)(hc:DZ w lo hi ad n x):Calls prog 56 #[.l ad n cap,.func (.func 57) #[] #[]] w λe w'=>e=.returned (.bool (PQ n x))/\Below w.1.size w w':=by
 go_enter func56,ntmps56;go_wp2;go_loopw[5](λi wr=>∃k:Nat,1<=k/\(k<=n\/k=1)/\i=.i k/\(∀j,j<k->(j==0||KW (x (j-1)).client (x j).client)=true)/\Below w.1.size w wr)(λi _=>n-(intOf i).toNat);case atStart=>exact⟨1,AD _,AC rfl,rfl,λj hj=>(by have:j=0:=Za;subst this;rfl),Ao _ _⟩
 case round=>
  obtain⟨k,hk1,hk,rfl,hall,hb⟩:=hrel;by_cases hkn:k<n
  .obtain⟨m,rfl⟩:∃m,k=m+1:=⟨k-1,Za⟩;obtain⟨b,off,rfl,hlo,hbh,hcx⟩:=hc (m+1) hkn;obtain⟨b',off',e,_,hbh',hcm⟩:=hc m Za;cases e;obtain⟨d0,d1,d2,d3,d4⟩:=hcx.below hb Za;obtain⟨q0,q1,q2,q3,q4⟩:=hcm.below hb Za;have hbw:b<wr.1.size:=by have:=hb.size;omega
   have rd0:=Ai d0 hbw;have rd1:=Ai d1 hbw;have rd2:=Ai d2 hbw;have rd3:=Ai d3 hbw;have rd4:=Ai d4 hbw;have rp0:=Ai q0 hbw;have rp1:=Ai q1 hbw;have rp2:=Ai q2 hbw;have rp3:=Ai q3 hbw;have rp4:=Ai q4 hbw;have hne:Nonempty (GW wr):=⟨⟨wr,Ao _ _⟩⟩;have HA:=Ah hall;have hkz:(m:Int)+1<=n:=Za;clear hall hc hk hcx hcm d0 d1 d2 d3 d4 q0 q1 q2 q3 q4;cases hlt:KW (x m).client (x (m+1)).client with
   |false=>
    have HE:=Ah (show PQ n x=false from AX (p:=λi=>i==0||KW (x (i-1)).client (x i).client) hkn (by simp[hlt]));go_wp2;refine AE Ze Ze ?_;repeat(go_big_quiet_step((go_at_call 57;go_must(exact Bf (O4 (x m) (x (m+1)) _)))))
    refine wpQuiet_nil ?_;rintro w2 ⟨u,hu⟩;have hw2:Below wr.1.size wr w2:=hu▸u.prop;clear hu u;go_wp2;go_ret;exact⟨Ay HE.symm,hb.trans (hw2.mono hb.size)⟩
   |true=>
    have HN:=Ah (show(m+1==0||KW (x (m+1-1)).client (x (m+1)).client)=true by simp[hlt]);go_wp2;refine AE Ze Ze ?_;repeat(go_big_quiet_step((go_at_call 57;go_must(exact Bf (O4 (x m) (x (m+1)) _)))))
    refine wpQuiet_nil ?_;rintro w2 ⟨u,hu⟩;have hw2:Below wr.1.size wr w2:=hu▸u.prop;clear hu u;go_wp2;go_roundw;case rel=>exact⟨m+2,Za,AA Za,by go_num,λj hj=>(by
     rcases Au j (m+1)with h3|h3;.exact HA j h3
     .have:j=m+1:=Za;subst this;exact HN),hb.trans (hw2.mono hb.size)⟩
    case measure=>simp[intOf];omega
  .have HE:=Ah (show PQ n x=true from AP.2 (λi hi=>hall i Za));clear hall hc hk;go_wp2;go_ret;exact⟨Ay HE.symm,hb⟩
def Ly (n:Nat)(x:Nat->Ti)(now:Int):Bool:=decide (n<=50)&&(PQ n x&&Bc (λi=>Nu (x i) now) n)
theorem PY (now floor:Int)(n:Nat)(x:Nat->Ti)(a1 a2 a3:OA)(n1 c1 n2 c2 c3:Nat)(w:World)(lo hi:Nat)(hhi:hi<=w.1.size)(hl:(n:Int)<=1099511627776)(hf:∀i,i<n->UF (x i))(hc:DZ w lo hi a3 n x):Calls prog 31 #[.agg #[.i now,.i floor,.l a1 n1 c1,.l a2 n2 c2,.l a3 n c3]] w λe w'=>e=.returned (.bool (Ly n x now))/\Below w.1.size w w':=by
 have hcA:=λo=>hc.below (Am w o) hhi;by_cases h50:(50:Int)<n;.have HE:=Ah (show Ly n x now=false by unfold Ly;rw[decide_eq_false Za];rfl);go_enter func31,ntmps31;go_wp2;go_ret;exact⟨Ay HE.symm,Am _ _⟩
 cases ha:PQ n x with
 |false=>have HE:=Ah (show Ly n x now=false by unfold Ly;rw[ha];simp);go_enter func31,ntmps31;go_wp2_with (go_at_call 56;refine(SV n x a3 c3 _ lo hi Zd Za (hcA _)).mono ?_;rintro e w1 ⟨rfl,hb1⟩);go_ret;exact⟨Ay HE.symm,(Am _ _).trans (hb1.mono Zc)⟩
 |true=>
  have rX:=Ah ha;go_enter func31,ntmps31;go_wp2_with (go_at_call 56;refine(SV n x a3 c3 _ lo hi Zd Za (hcA _)).mono ?_;rintro e w1 ⟨rfl,hb1⟩;have k0:=Ar hb1 0;have k4:=Ar hb1 4;simp only[Af,Ae,Ad]at k0 k4;have hB1:Below w.1.size w w1:=(Am _ _).trans (hb1.mono Zc);have hz1:w.1.size<w1.1.size:=OC;clear hb1);go_loopw[18](λi wr=>∃k:Nat,k<=n/\i=.i k/\(∀j,j<k->Nu (x j) now=true)/\Below w.1.size w wr/\w.1.size<wr.1.size/\wr.cell? ⟨w.1.size,0,none⟩=some (.i now))(λi _=>n-(intOf i).toNat);case atStart=>exact⟨0,At _,rfl,λj hj=>absurd hj (Aj _),hB1,hz1,k0⟩
  case round=>
   obtain⟨k,hk,rfl,hall,hb,hz,hb0⟩:=hrel;by_cases hkn:k<n;.obtain⟨b,off,rfl,hlo,hbh,hcx⟩:=hc k hkn;have hfk:=hf k hkn;obtain⟨d0,d1,d2,d3,d4⟩:=hcx.below hb Za;have HA:=Ah hall;clear hall hc hf hcx hcA k0 k4 hB1 hz1 ha;cases hp:Nu (x k) now with
    |false=>have HE:=Ah (show Ly n x now=false by unfold Ly;rw[AX (p:=λi=>Nu (x i) now) hkn hp];simp);go_wp2_with (go_at_call 58;refine(R8 (x k) now _ hfk).mono ?_;rintro e w2 ⟨rfl,hb2⟩;rw[hp]);go_ret;exact⟨Ay HE.symm,(hb.alloc hb.size _).trans (hb2.mono Zv)⟩
    |true=>
     have HP:=Ah hp;go_wp2_with (go_at_call 58;refine(R8 (x k) now _ hfk).mono ?_;rintro e w2 ⟨rfl,hb2⟩;rw[hp]);have hB2:Below w.1.size w w2:=(hb.alloc hb.size _).trans (hb2.mono Zv);have hz2:w.1.size<w2.1.size:=by have:=hb2.size;simp at this;omega
     have h00:w2.cell? ⟨w.1.size,0,none⟩=some (.i now):=(hb2.cell (p:=⟨w.1.size,0,none⟩) Zd).trans ((Ap _ _ _ hz).trans hb0);go_roundw;case rel=>exact⟨k+1,Za,by go_num,λj hj=>(by
      rcases Au j k with h3|h3;.exact HA j h3
      .have:j=k:=Za;subst this;exact HP),hB2,hz2,h00⟩
     case measure=>simp[intOf];omega
   .have HE:=Ah (show Ly n x now=true by unfold Ly;rw[rX.out,decide_eq_true (show n<=50 by omega),AP.2 (λi hi=>hall i Za)];rfl);clear hall hc hf hcA;go_wp2;go_ret;exact⟨Ay HE.symm,hb⟩
def M3 (now floor:Int):Bool:=EG now 0 1000000&&EG floor 0 now
theorem bF{P:Prop}(h:P:=by go_enter func25,ntmps25;go_wp2_with (go_at_call 14;refine(KL _ _ _ _).mono ?_;rintro e w1 ⟨rfl,rfl⟩;first|rw[h1]|skip);go_ret;exact⟨Ay HE.symm,Am _ _⟩):P:=h
theorem P8 (now floor:Int)(a1 a2 a3:OA)(n1 c1 n2 c2 n c3:Nat)(w:World):Calls prog 25 #[.agg #[.i now,.i floor,.l a1 n1 c1,.l a2 n2 c2,.l a3 n c3]] w λe w'=>e=.returned (.bool (M3 now floor))/\Below w.1.size w w':=by cases h1:EG now 0 1000000 with
 |false=>have HE:=Ah (show M3 now floor=false by unfold M3;rw[h1];rfl);exact bF
 |true=>have HE:=Ah (show M3 now floor=EG floor 0 now by unfold M3;rw[h1];rfl);exact bF
end Go.Proofs.Ytnnjcenacidceaa
