import Derived.Test.YtnnjcenacidceaaPk02
import Derived.Test.YtnnjcenacidceaaPk06
import Derived.Deep.QuietTactic
import Derived.BigQuiet
import Derived.Test.YtnnjcenacidceaaPk08
set_option maxRecDepth 100000
set_option maxHeartbeats 1000000
namespace Go.Proofs.Ytnnjcenacidceaa
open Go.RowKit Go.Proofs.Try
theorem RJ (x:Ob)(ad:OA)(cap:Nat)(w:World):Calls prog 50 #[.agg (vO x ad cap)] w λe w'=>e=.returned (.agg #[.s x.kind,.s x.name])/\Below w.1.size w w':=by go_enter func50,ntmps50;go_wp2;refine bodyPost_ret (v:=.agg #[.s x.kind,.s x.name]) (by simp[results,results50,go_sem]) rfl ⟨rfl,?_⟩;exact((Am _ _).alloc Zc _)
theorem Qb:∀a:List UInt8,Op.bytesLess a a=false
 |[]=>rfl
 |x::a=>by simp[Op.bytesLess,Qb a]
theorem eI (x z:Ob):Fd x z=decide (l9 (Lw x.kind z.kind) (Lw x.name z.name)<0):=by
 unfold Fd l9 Lw;by_cases h2:x.kind.toList=z.kind.toList
 .have h1:KW x.kind z.kind=false:=by unfold KW;rw[h2];exact Qb _
  simp only[h1,h2,if_true,GP,if_false];cases h3:KW x.name z.name with
  |true=>simp
  |false=>by_cases h4:x.name.toList=z.name.toList<;>simp[h4]
 .cases h1:KW x.kind z.kind with
  |true=>simp[h2]
  |false=>simp[h2]
theorem VY (x z:Ob)(ad ad2:OA)(cap cap2:Nat)(w:World):Calls prog 74 #[.agg (vO x ad cap),.agg (vO z ad2 cap2)] w λe w'=>e=.returned (.i (l9 (Lw x.kind z.kind) (Lw x.name z.name)))/\Below w.1.size w w':=by
 go_enter func74,ntmps74;go_wp2;have hne:Nonempty (GW ((w.alloc (.cells (vO x ad cap) 38)).alloc (.cells (vO z ad2 cap2) 38))):=⟨⟨_,Ao _ _⟩⟩;have x0:=Ai (W1:=(w.alloc (.cells (vO x ad cap) 38)).alloc (.cells (vO z ad2 cap2) 38)) (p:=⟨w.1.size,0,none⟩) (v:=.s x.kind) pH Zd;have z0:=Ai (W1:=(w.alloc (.cells (vO x ad cap) 38)).alloc (.cells (vO z ad2 cap2) 38)) (p:=⟨w.1.size+1,0,none⟩) (v:=.s z.kind) Zc Zc;have x1:=Ai (W1:=(w.alloc (.cells (vO x ad cap) 38)).alloc (.cells (vO z ad2 cap2) 38)) (p:=⟨w.1.size,1,none⟩) (v:=.s x.name) pH Zd;have z1:=Ai (W1:=(w.alloc (.cells (vO x ad cap) 38)).alloc (.cells (vO z ad2 cap2) 38)) (p:=⟨w.1.size+1,1,none⟩) (v:=.s z.name) Zc Zc;have x2:=Ai (W1:=(w.alloc (.cells (vO x ad cap) 38)).alloc (.cells (vO z ad2 cap2) 38)) (p:=⟨w.1.size,2,none⟩) (v:=.i x.ver) pH Zd;have z2:=Ai (W1:=(w.alloc (.cells (vO x ad cap) 38)).alloc (.cells (vO z ad2 cap2) 38)) (p:=⟨w.1.size+1,2,none⟩) (v:=.i z.ver) Zc Zc;have x3:=Ai (W1:=(w.alloc (.cells (vO x ad cap) 38)).alloc (.cells (vO z ad2 cap2) 38)) (p:=⟨w.1.size,3,none⟩) (v:=.i x.born) pH Zd;have z3:=Ai (W1:=(w.alloc (.cells (vO x ad cap) 38)).alloc (.cells (vO z ad2 cap2) 38)) (p:=⟨w.1.size+1,3,none⟩) (v:=.i z.born) Zc Zc;have x4:=Ai (W1:=(w.alloc (.cells (vO x ad cap) 38)).alloc (.cells (vO z ad2 cap2) 38)) (p:=⟨w.1.size,4,none⟩) (v:=.s x.text) pH Zd;have z4:=Ai (W1:=(w.alloc (.cells (vO x ad cap) 38)).alloc (.cells (vO z ad2 cap2) 38)) (p:=⟨w.1.size+1,4,none⟩) (v:=.s z.text) Zc Zc;have x5:=Ai (W1:=(w.alloc (.cells (vO x ad cap) 38)).alloc (.cells (vO z ad2 cap2) 38)) (p:=⟨w.1.size,5,none⟩) (v:=.bool x.ending) pH Zd;have z5:=Ai (W1:=(w.alloc (.cells (vO x ad cap) 38)).alloc (.cells (vO z ad2 cap2) 38)) (p:=⟨w.1.size+1,5,none⟩) (v:=.bool z.ending) Zc Zc;have x6:=Ai (W1:=(w.alloc (.cells (vO x ad cap) 38)).alloc (.cells (vO z ad2 cap2) 38)) (p:=⟨w.1.size,6,none⟩) (v:=.l ad x.hn cap) pH Zd;have z6:=Ai (W1:=(w.alloc (.cells (vO x ad cap) 38)).alloc (.cells (vO z ad2 cap2) 38)) (p:=⟨w.1.size+1,6,none⟩) (v:=.l ad2 z.hn cap2) Zc Zc;refine AE Ze Ze ?_;repeat(go_big_quiet_step(first|(go_at_call 50;first|exact Bf (RJ x ad cap _)|exact Bf (RJ z ad2 cap2 _))|(go_at_call 89;go_must(exact Bf (V1 _ _ _ _ _)))))
 refine wpQuiet_nil ?_;rintro w2 ⟨u,hu⟩;have hw2:Below ((w.alloc (.cells (vO x ad cap) 38)).alloc (.cells (vO z ad2 cap2) 38)).1.size ((w.alloc (.cells (vO x ad cap) 38)).alloc (.cells (vO z ad2 cap2) 38)) w2:=hu▸u.prop;clear hu u hne x0 x1 x2 x3 x4 x5 x6 z0 z1 z2 z3 z4 z5 z6;go_wp2;go_ret;exact⟨rfl,((Am _ _).alloc Zc _).trans (hw2.mono Zd)⟩
theorem QO (x z:Ob)(ad ad2:OA)(cap cap2:Nat)(w:World):Calls prog 46 #[.agg (vO x ad cap),.agg (vO z ad2 cap2)] w λe w'=>e=.returned (.bool (Fd x z))/\Below w.1.size w w':=by have HE:=Ah (eI x z);have HB:=Ah (show∀o1 o2:Obj,Below w.1.size w ((w.alloc o1).alloc o2)from λo1 o2=>(Am _ _).alloc Zc _);go_enter func46,ntmps46;go_wp2_with (go_at_call 74;refine(VY x z _ _ _ _ _).mono ?_;rintro e w1 ⟨rfl,hb1⟩);go_ret;exact⟨Ay HE.symm,(HB _ _).trans (hb1.mono Zd)⟩
theorem Q8 (n:Nat)(x:Nat->Ob)(ad:OA)(cap:Nat)(w:World)(lo hi:Nat)(hhi:hi<=w.1.size)(hl:(n:Int)<=140737488355328)(hc:B4 w lo hi ad n x):Calls prog 45 #[.l ad n cap,.func (.func 46) #[] #[]] w λe w'=>e=.returned (.bool (K8 n x))/\Below w.1.size w w':=by
 go_enter func45,ntmps45;go_wp2;go_loopw[5](λi wr=>∃k:Nat,1<=k/\(k<=n\/k=1)/\i=.i k/\(∀j,j<k->(j==0||Fd (x (j-1)) (x j))=true)/\Below w.1.size w wr)(λi _=>n-(intOf i).toNat);case atStart=>exact⟨1,AD _,AC rfl,rfl,λj hj=>(by have:j=0:=Za;subst this;rfl),Ao _ _⟩
 case round=>
  obtain⟨k,hk1,hk,rfl,hall,hb⟩:=hrel;by_cases hkn:k<n
  .obtain⟨m,rfl⟩:∃m,k=m+1:=⟨k-1,Za⟩;obtain⟨b,off,ah,ch,rfl,hlo,hbh,hcx,_⟩:=hc (m+1) hkn;obtain⟨b',off',ah',ch',e,_,hbh',hcm,_⟩:=hc m Za;cases e;obtain⟨d0,d1,d2,d3,d4,d5,d6⟩:=hcx.below hb Za;obtain⟨q0,q1,q2,q3,q4,q5,q6⟩:=hcm.below hb Za;have hbw:b<wr.1.size:=by have:=hb.size;omega
   have rd0:=Ai d0 hbw;have rd1:=Ai d1 hbw;have rd2:=Ai d2 hbw;have rd3:=Ai d3 hbw;have rd4:=Ai d4 hbw;have rd5:=Ai d5 hbw;have rd6:=Ai d6 hbw;have rp0:=Ai q0 hbw;have rp1:=Ai q1 hbw;have rp2:=Ai q2 hbw;have rp3:=Ai q3 hbw;have rp4:=Ai q4 hbw;have rp5:=Ai q5 hbw;have rp6:=Ai q6 hbw;have hne:Nonempty (GW wr):=⟨⟨wr,Ao _ _⟩⟩;have HA:=Ah hall;have hkz:(m:Int)+1<=n:=Za;clear hall hc hk hcx hcm d0 d1 d2 d3 d4 d5 d6 q0 q1 q2 q3 q4 q5 q6;cases hlt:Fd (x m) (x (m+1))with
   |false=>
    have HE:=Ah (show K8 n x=false from AX (p:=λi=>i==0||Fd (x (i-1)) (x i)) hkn (by simp[hlt]));go_wp2;refine AE Ze Ze ?_;repeat(go_big_quiet_step((go_at_call 46;go_must(exact Bf (QO (x m) (x (m+1)) _ _ _ _ _)))))
    refine wpQuiet_nil ?_;rintro w2 ⟨u,hu⟩;have hw2:Below wr.1.size wr w2:=hu▸u.prop;clear hu u;go_wp2;go_ret;exact⟨Ay HE.symm,hb.trans (hw2.mono hb.size)⟩
   |true=>
    have HN:=Ah (show(m+1==0||Fd (x (m+1-1)) (x (m+1)))=true by simp[hlt]);go_wp2;refine AE Ze Ze ?_;repeat(go_big_quiet_step((go_at_call 46;go_must(exact Bf (QO (x m) (x (m+1)) _ _ _ _ _)))))
    refine wpQuiet_nil ?_;rintro w2 ⟨u,hu⟩;have hw2:Below wr.1.size wr w2:=hu▸u.prop;clear hu u;go_wp2;go_roundw;case rel=>exact⟨m+2,Za,AA Za,by go_num,λj hj=>(by
     rcases Au j (m+1)with h3|h3;.exact HA j h3
     .have:j=m+1:=Za;subst this;exact HN),hb.trans (hw2.mono hb.size)⟩
    case measure=>simp[intOf];omega
  .have HE:=Ah (show K8 n x=true from AP.2 (λi hi=>hall i Za));clear hall hc hk;go_wp2;go_ret;exact⟨Ay HE.symm,hb⟩
def E6 (n:Nat)(x:Nat->Ob)(now:Int):Bool:=decide (n<=100)&&(K8 n x&&Ml n x now)
theorem PT (now floor:Int)(n:Nat)(x:Nat->Ob)(a1 a2 a3:OA)(c1 n2 c2 n3 c3:Nat)(w:World)(lo hi:Nat)(hhi:hi<=w.1.size)(hl:(n:Int)<=1099511627776)(hf:∀i,i<n->Ef (x i))(hc:B4 w lo hi a1 n x):Calls prog 26 #[.agg #[.i now,.i floor,.l a1 n c1,.l a2 n2 c2,.l a3 n3 c3]] w λe w'=>e=.returned (.bool (E6 n x now))/\Below w.1.size w w':=by
 have hcA:=λo=>hc.below (Am w o) hhi;by_cases h100:(100:Int)<n;.have HE:=Ah (show E6 n x now=false by unfold E6;rw[decide_eq_false Za];rfl);go_enter func26,ntmps26;go_wp2;go_ret;exact⟨Ay HE.symm,Am _ _⟩
 cases ha:K8 n x with
 |false=>have HE:=Ah (show E6 n x now=false by unfold E6;rw[ha];simp);go_enter func26,ntmps26;go_wp2_with (go_at_call 45;refine(Q8 n x a1 c1 _ lo hi Zd Za (hcA _)).mono ?_;rintro e w1 ⟨rfl,hb1⟩);go_ret;exact⟨Ay HE.symm,(Am _ _).trans (hb1.mono Zc)⟩
 |true=>
  have rX:=Ah ha;go_enter func26,ntmps26;go_wp2_with (go_at_call 45;refine(Q8 n x a1 c1 _ lo hi Zd Za (hcA _)).mono ?_;rintro e w1 ⟨rfl,hb1⟩;have k0:=Ar hb1 0;have k2:=Ar hb1 2;simp only[Af,Ae,Ad]at k0 k2;have hB1:Below w.1.size w w1:=(Am _ _).trans (hb1.mono Zc);have hz1:w.1.size<w1.1.size:=OC;clear hb1);go_loopw[18](λi wr=>∃k:Nat,k<=n/\i=.i k/\(∀j,j<k->Bg (x j) now=true/\CW (x j)=true)/\Below w.1.size w wr/\w.1.size<wr.1.size/\wr.cell? ⟨w.1.size,0,none⟩=some (.i now))(λi _=>n-(intOf i).toNat);case atStart=>exact⟨0,At _,rfl,λj hj=>absurd hj (Aj _),hB1,hz1,k0⟩
  case round=>
   obtain⟨k,hk,rfl,hall,hb,hz,hb0⟩:=hrel;by_cases hkn:k<n
   .obtain⟨b,off,ah,ch,rfl,hlo,hbh,hcx,hsx⟩:=hc k hkn;have hfk:=hf k hkn;have hfh:((x k).hn:Int)<=140737488355328:=by have:=hfk.h;omega
    obtain⟨d0,d1,d2,d3,d4,d5,d6⟩:=hcx.below hb Za;have hs1:=hsx.below hb hhi;have HA:=Ah hall;clear hall hc hf hcx hsx hcA k0 k2 hB1 hz1 ha;cases hp:Bg (x k) now with
    |false=>have HE:=Ah (show E6 n x now=false by unfold E6 Ml;rw[AX (p:=λi=>Bg (x i) now&&CW (x i)) hkn (by rw[hp];rfl)];simp);go_wp2_with (go_at_call 47;refine(LS (x k) now ah ch _ lo hi Zv hfk (hs1.alloc (by have:=hb.size;omega) _)).mono ?_;rintro e w2 ⟨rfl,hb2⟩);go_ret;exact⟨Ay HE.symm,(hb.alloc hb.size _).trans (hb2.mono Zv)⟩
    |true=>
     have HP:=Ah hp;go_wp2_with (go_at_call 47;refine(LS (x k) now ah ch _ lo hi Zv hfk (hs1.alloc (by have:=hb.size;omega) _)).mono ?_;rintro e w2 ⟨rfl,hb2⟩;have t0:=Ar hb2 0;have t1:=Ar hb2 1;have t2:=Ar hb2 2;have t3:=Ar hb2 3;have t4:=Ar hb2 4;have t5:=Ar hb2 5;have t6:=Ar hb2 6;simp only[Af,Ae,Ad]at t0 t1 t2 t3 t4 t5 t6);refine(OL (x k) ah ch _ hfh).mono ?_;rintro e w3 ⟨rfl,hb3⟩;have hB2:Below w.1.size w w2:=(hb.alloc hb.size _).trans (hb2.mono Zv);have hB3:Below w.1.size w w3:=hB2.trans (hb3.mono hB2.size);have hz2:wr.1.size<w2.1.size:=by have:=hb2.size;simp at this;omega
     have h00:w3.cell? ⟨w.1.size,0,none⟩=some (.i now):=(hb3.cell (p:=⟨w.1.size,0,none⟩) Zg).trans ((hb2.cell (p:=⟨w.1.size,0,none⟩) Zd).trans ((Ap _ _ _ hz).trans hb0));have hz3:w.1.size<w3.1.size:=by have:=hb3.size;omega
     clear t0 t1 t2 t3 t4 t5 t6 d0 d1 d2 d3 d4 d5 d6 hs1 hb2 hb3;cases hst:CW (x k)with
     |false=>have HE:=Ah (show E6 n x now=false by unfold E6 Ml;rw[AX (p:=λi=>Bg (x i) now&&CW (x i)) hkn (by rw[hp,hst];rfl)];simp);go_wp2;go_ret;exact⟨Ay HE.symm,hB3⟩
     |true=>
      have HS:=Ah hst;go_wp2;go_roundw;case rel=>exact⟨k+1,Za,by go_num,λj hj=>(by
       rcases Au j k with h3|h3;.exact HA j h3
       .have:j=k:=Za;subst this;exact⟨HP,HS⟩),hB3,hz3,h00⟩
      case measure=>simp[intOf];omega
   .have HE:=Ah (show E6 n x now=true by unfold E6 Ml;rw[rX.out,decide_eq_true (show n<=100 by omega),AP.2 (λi hi=>by rw[(hall i Za).1,(hall i Za).2];rfl)];rfl);clear hall hc hf hcA;go_wp2;go_ret;exact⟨Ay HE.symm,hb⟩
end Go.Proofs.Ytnnjcenacidceaa
