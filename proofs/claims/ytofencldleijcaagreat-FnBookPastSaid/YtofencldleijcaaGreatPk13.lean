import Derived.Test.YtofencldleijcaaGreatPk12
set_option maxRecDepth 100000
set_option maxHeartbeats 1000000
namespace Go.Proofs.YtofencldleijcaaGreat
open Go.RowKit Go.Maps Go.Proofs.Tryz
def JK (t:Ti)(now:Int):Bool:=By t.client&&(DW t.num 1 1000000&&(decide (t.print.size=8)&&(DW t.code 0 9&&DW t.ver 0 now)))
theorem V5{P:Prop}(h:P:=by go_enter func84,ntmps84;go_wp2_with (first|(go_at_call 100;refine(Gc _ _ hfc).mono ?_;rintro e w1 ⟨rfl,rfl⟩;rw[hn])|(go_at_call 18;refine(Fo _ _ _ _).mono ?_;rintro e w1 ⟨rfl,rfl⟩;first|rw[h1]|rw[h2]|skip));go_ret;exact⟨Av HE.symm,Am _ _⟩):P:=h
theorem YT{P:Prop}(h:P:=by go_enter func84,ntmps84;go_wp2_with (first|(go_at_call 100;refine(Gc _ _ hfc).mono ?_;rintro e w1 ⟨rfl,rfl⟩;rw[hn])|(go_at_call 18;refine(Fo _ _ _ _).mono ?_;rintro e w1 ⟨rfl,rfl⟩;first|rw[h1]|skip));go_ret;exact⟨Av HE.symm,Am _ _⟩):P:=h
theorem Of (t:Ti)(now:Int)(w:World)(hf:T7 t):Calls prog 84 #[.agg (vT t),.i now] w λe w'=>e=.returned (.bool (JK t now))/\Below w.1.size w w':=by have hfc:=hf.c;have hfp:=hf.p;cases hn:By t.client with
 |false=>have HE:=Ag (show JK t now=false by unfold JK;simp[hn]);go_enter func84,ntmps84;go_wp2_with (first|(go_at_call 100;refine(Gc _ _ hfc).mono ?_;rintro e w1 ⟨rfl,rfl⟩;rw[hn])|(go_at_call 18;refine(Fo _ _ _ _).mono ?_;rintro e w1 ⟨rfl,rfl⟩;skip));go_ret;exact⟨Av HE.symm,Am _ _⟩
 |true=>cases h1:DW t.num 1 1000000 with
 |false=>have HE:=Ag (show JK t now=false by unfold JK;simp[hn,h1]);exact YT
 |true=>
 by_cases hp:t.print.size=8;case neg=>have hpz:¬(t.print.size:Int)=8:=Zb;have HE:=Ag (show JK t now=false by unfold JK;simp[hn,h1,hp]);exact YT
 have hpz:(t.print.size:Int)=8:=Zb;cases h2:DW t.code 0 9 with
 |false=>have HE:=Ag (show JK t now=false by unfold JK;simp[hn,h1,h2,hp]);exact V5
 |true=>have HE:=Ag (show JK t now=DW t.ver 0 now by unfold JK;simp[hn,h1,h2,hp]);exact V5
theorem K9 (x z:Ti)(w:World):Calls prog 83 #[.agg (vT x),.agg (vT z)] w λe w'=>e=.returned (.bool (ER x.client z.client))/\Below w.1.size w w':=by go_enter func83,ntmps83;go_wp2;go_ret;exact⟨rfl,(Am _ _).alloc Zc _⟩
def Mb (n:Nat)(x:Nat->Ti):Bool:=Be (λi=>i==0||ER (x (i-1)).client (x i).client) n
theorem Ph (n:Nat)(x:Nat->Ti)(ad:OA)(cap:Nat)(w:World)(lo hi:Nat)(hhi:hi<=w.1.size)(hl:(n:Int)<=140737488355328)(hc:C5 w lo hi ad n x):Calls prog 82 #[.l ad n cap,.func (.func 83) #[] #[]] w λe w'=>e=.returned (.bool (Mb n x))/\Below w.1.size w w':=by
 go_enter func82,ntmps82;go_wp2;go_loopw[5](λi wr=>∃k:Nat,1<=k/\(k<=n\/k=1)/\i=.i k/\(∀j,j<k->(j==0||ER (x (j-1)).client (x j).client)=true)/\Below w.1.size w wr)(λi _=>n-(intOf i).toNat);case atStart=>exact⟨1,Az _,AD rfl,rfl,λj hj=>(by have:j=0:=Zb;subst this;rfl),Al _ _⟩
 case round=>
  obtain⟨k,hk1,hk,rfl,hall,hb⟩:=hrel;by_cases hkn:k<n
  .obtain⟨m,rfl⟩:∃m,k=m+1:=⟨k-1,Zb⟩;obtain⟨b,off,rfl,hlo,hbh,hcx⟩:=hc (m+1) hkn;obtain⟨b',off',e,_,hbh',hcm⟩:=hc m Zb;cases e;obtain⟨d0,d1,d2,d3,d4⟩:=hcx.below hb Zb;obtain⟨q0,q1,q2,q3,q4⟩:=hcm.below hb Zb;have hbw:b<wr.1.size:=by have:=hb.size;omega
   have rd0:=Ah d0 hbw;have rd1:=Ah d1 hbw;have rd2:=Ah d2 hbw;have rd3:=Ah d3 hbw;have rd4:=Ah d4 hbw;have rp0:=Ah q0 hbw;have rp1:=Ah q1 hbw;have rp2:=Ah q2 hbw;have rp3:=Ah q3 hbw;have rp4:=Ah q4 hbw;have hne:Nonempty (GW wr):=⟨⟨wr,Al _ _⟩⟩;have HA:=Ag hall;have hkz:(m:Int)+1<=n:=Zb;clear hall hc hk hcx hcm d0 d1 d2 d3 d4 q0 q1 q2 q3 q4;cases hlt:ER (x m).client (x (m+1)).client with
   |false=>
    have HE:=Ag (show Mb n x=false from AV (p:=λi=>i==0||ER (x (i-1)).client (x i).client) hkn (by simp[hlt]));go_wp2;refine AA Ze Ze ?_;repeat(go_big_quiet_step((go_at_call 83;go_must(exact Bf (K9 (x m) (x (m+1)) _)))))
    refine wpQuiet_nil ?_;rintro w2 ⟨u,hu⟩;have hw2:Below wr.1.size wr w2:=hu▸u.prop;clear hu u;go_wp2;go_ret;exact⟨Av HE.symm,hb.trans (hw2.mono hb.size)⟩
   |true=>
    have HN:=Ag (show(m+1==0||ER (x (m+1-1)).client (x (m+1)).client)=true by simp[hlt]);go_wp2;refine AA Ze Ze ?_;repeat(go_big_quiet_step((go_at_call 83;go_must(exact Bf (K9 (x m) (x (m+1)) _)))))
    refine wpQuiet_nil ?_;rintro w2 ⟨u,hu⟩;have hw2:Below wr.1.size wr w2:=hu▸u.prop;clear hu u;go_wp2;go_roundw;case rel=>exact⟨m+2,Zb,AO Zb,by go_num,λj hj=>(by
     rcases At j (m+1)with h3|h3;.exact HA j h3
     .have:j=m+1:=Zb;subst this;exact HN),hb.trans (hw2.mono hb.size)⟩
    case measure=>simp[intOf];omega
  .have HE:=Ag (show Mb n x=true from AC.2 (λi hi=>hall i Zb));clear hall hc hk;go_wp2;go_ret;exact⟨Av HE.symm,hb⟩
def Gg (n:Nat)(x:Nat->Ti)(now:Int):Bool:=decide (n<=50)&&(Mb n x&&Be (λi=>JK (x i) now) n)
theorem L7 (now floor:Int)(n:Nat)(x:Nat->Ti)(a1 a2 a3:OA)(n1 c1 n2 c2 c3:Nat)(w:World)(lo hi:Nat)(hhi:hi<=w.1.size)(hl:(n:Int)<=1099511627776)(hf:∀i,i<n->T7 (x i))(hc:C5 w lo hi a3 n x):Calls prog 52 #[.agg #[.i now,.i floor,.l a1 n1 c1,.l a2 n2 c2,.l a3 n c3]] w λe w'=>e=.returned (.bool (Gg n x now))/\Below w.1.size w w':=by
 have hcA:=λo=>hc.below (Am w o) hhi;by_cases h50:(50:Int)<n;.have HE:=Ag (show Gg n x now=false by unfold Gg;rw[decide_eq_false Zb];rfl);go_enter func52,ntmps52;go_wp2;go_ret;exact⟨Av HE.symm,Am _ _⟩
 cases ha:Mb n x with
 |false=>have HE:=Ag (show Gg n x now=false by unfold Gg;rw[ha];simp);go_enter func52,ntmps52;go_wp2_with (go_at_call 82;refine(Ph n x a3 c3 _ lo hi Zd Zb (hcA _)).mono ?_;rintro e w1 ⟨rfl,hb1⟩);go_ret;exact⟨Av HE.symm,(Am _ _).trans (hb1.mono Zc)⟩
 |true=>
  have eI:=Ag ha;go_enter func52,ntmps52;go_wp2_with (go_at_call 82;refine(Ph n x a3 c3 _ lo hi Zd Zb (hcA _)).mono ?_;rintro e w1 ⟨rfl,hb1⟩;have k0:=As hb1 0;have k4:=As hb1 4;simp only[Ac,Ab,Aa]at k0 k4;have hB1:Below w.1.size w w1:=(Am _ _).trans (hb1.mono Zc);have hz1:w.1.size<w1.1.size:=lA;clear hb1);go_loopw[18](λi wr=>∃k:Nat,k<=n/\i=.i k/\(∀j,j<k->JK (x j) now=true)/\Below w.1.size w wr/\w.1.size<wr.1.size/\wr.cell? ⟨w.1.size,0,none⟩=some (.i now))(λi _=>n-(intOf i).toNat);case atStart=>exact⟨0,Aw _,rfl,λj hj=>absurd hj (Ai _),hB1,hz1,k0⟩
  case round=>
   obtain⟨k,hk,rfl,hall,hb,hz,hb0⟩:=hrel;by_cases hkn:k<n;.obtain⟨b,off,rfl,hlo,hbh,hcx⟩:=hc k hkn;have hfk:=hf k hkn;obtain⟨d0,d1,d2,d3,d4⟩:=hcx.below hb Zb;have HA:=Ag hall;clear hall hc hf hcx hcA k0 k4 hB1 hz1 ha;cases hp:JK (x k) now with
    |false=>have HE:=Ag (show Gg n x now=false by unfold Gg;rw[AV (p:=λi=>JK (x i) now) hkn hp];simp);go_wp2_with (go_at_call 84;refine(Of (x k) now _ hfk).mono ?_;rintro e w2 ⟨rfl,hb2⟩;rw[hp]);go_ret;exact⟨Av HE.symm,(hb.alloc hb.size _).trans (hb2.mono Vr)⟩
    |true=>
     have HP:=Ag hp;go_wp2_with (go_at_call 84;refine(Of (x k) now _ hfk).mono ?_;rintro e w2 ⟨rfl,hb2⟩;rw[hp]);have hB2:Below w.1.size w w2:=(hb.alloc hb.size _).trans (hb2.mono Vr);have hz2:w.1.size<w2.1.size:=by have:=hb2.size;simp at this;omega
     have h00:w2.cell? ⟨w.1.size,0,none⟩=some (.i now):=(hb2.cell (p:=⟨w.1.size,0,none⟩) Zd).trans ((Aq _ _ _ hz).trans hb0);go_roundw;case rel=>exact⟨k+1,Zb,by go_num,λj hj=>(by
      rcases At j k with h3|h3;.exact HA j h3
      .have:j=k:=Zb;subst this;exact HP),hB2,hz2,h00⟩
     case measure=>simp[intOf];omega
   .have HE:=Ag (show Gg n x now=true by unfold Gg;rw[eI.out,decide_eq_true (show n<=50 by omega),AC.2 (λi hi=>hall i Zb)];rfl);clear hall hc hf hcA;go_wp2;go_ret;exact⟨Av HE.symm,hb⟩
def I5 (now floor:Int):Bool:=DW now 0 1000000&&DW floor 0 now
theorem Yz{P:Prop}(h:P:=by go_enter func46,ntmps46;go_wp2_with (go_at_call 18;refine(Fo _ _ _ _).mono ?_;rintro e w1 ⟨rfl,rfl⟩;first|rw[h1]|skip);go_ret;exact⟨Av HE.symm,Am _ _⟩):P:=h
theorem Mg (now floor:Int)(a1 a2 a3:OA)(n1 c1 n2 c2 n c3:Nat)(w:World):Calls prog 46 #[.agg #[.i now,.i floor,.l a1 n1 c1,.l a2 n2 c2,.l a3 n c3]] w λe w'=>e=.returned (.bool (I5 now floor))/\Below w.1.size w w':=by cases h1:DW now 0 1000000 with
 |false=>have HE:=Ag (show I5 now floor=false by unfold I5;rw[h1];rfl);exact Yz
 |true=>have HE:=Ag (show I5 now floor=DW floor 0 now by unfold I5;rw[h1];rfl);exact Yz
end Go.Proofs.YtofencldleijcaaGreat
