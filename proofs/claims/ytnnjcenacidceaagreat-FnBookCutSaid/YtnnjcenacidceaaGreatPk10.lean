import Derived.Test.YtnnjcenacidceaaGreatPk02
import Derived.Test.YtnnjcenacidceaaGreatPk06
import Derived.Deep.QuietTactic
import Derived.BigQuiet
import Derived.Test.YtnnjcenacidceaaGreatPk08
set_option maxRecDepth 100000
set_option maxHeartbeats 1000000
namespace Go.Proofs.YtnnjcenacidceaaGreat
open Go.RowKit Go.Proofs.Tryz
theorem RE (x:Ob)(ad:OA)(cap:Nat)(w:World):Calls prog 64 #[.agg (vO x ad cap)] w λe w'=>e=.returned (.agg #[.s x.kind,.s x.name])/\Below w.1.size w w':=by go_enter func64,ntmps64;go_wp2;refine bodyPost_ret (v:=.agg #[.s x.kind,.s x.name]) (by simp[results,results64,go_sem]) rfl ⟨rfl,?_⟩;exact((An _ _).alloc Zc _)
theorem Qv:∀a:List UInt8,Op.bytesLess a a=false
 |[]=>rfl
 |x::a=>by simp[Op.bytesLess,Qv a]
theorem i9 (x z:Ob):Fi x z=decide (fV (LD x.kind z.kind) (LD x.name z.name)<0):=by
 unfold Fi fV LD;by_cases h2:x.kind.toList=z.kind.toList
 .have h1:K9 x.kind z.kind=false:=by unfold K9;rw[h2];exact Qv _
  simp only[h1,h2,if_true,G7,if_false];cases h3:K9 x.name z.name with
  |true=>simp
  |false=>by_cases h4:x.name.toList=z.name.toList<;>simp[h4]
 .cases h1:K9 x.kind z.kind with
  |true=>simp[h2]
  |false=>simp[h2]
theorem WB (x z:Ob)(ad ad2:OA)(cap cap2:Nat)(w:World):Calls prog 82 #[.agg (vO x ad cap),.agg (vO z ad2 cap2)] w λe w'=>e=.returned (.i (fV (LD x.kind z.kind) (LD x.name z.name)))/\Below w.1.size w w':=by
 go_enter func82,ntmps82;go_wp2;have hne:Nonempty (GW ((w.alloc (.cells (vO x ad cap) 51)).alloc (.cells (vO z ad2 cap2) 51))):=⟨⟨_,Aq _ _⟩⟩;have x0:=Ak (W1:=(w.alloc (.cells (vO x ad cap) 51)).alloc (.cells (vO z ad2 cap2) 51)) (p:=⟨w.1.size,0,none⟩) (v:=.s x.kind) oS Zd;have z0:=Ak (W1:=(w.alloc (.cells (vO x ad cap) 51)).alloc (.cells (vO z ad2 cap2) 51)) (p:=⟨w.1.size+1,0,none⟩) (v:=.s z.kind) Zc Zc;have x1:=Ak (W1:=(w.alloc (.cells (vO x ad cap) 51)).alloc (.cells (vO z ad2 cap2) 51)) (p:=⟨w.1.size,1,none⟩) (v:=.s x.name) oS Zd;have z1:=Ak (W1:=(w.alloc (.cells (vO x ad cap) 51)).alloc (.cells (vO z ad2 cap2) 51)) (p:=⟨w.1.size+1,1,none⟩) (v:=.s z.name) Zc Zc;have x2:=Ak (W1:=(w.alloc (.cells (vO x ad cap) 51)).alloc (.cells (vO z ad2 cap2) 51)) (p:=⟨w.1.size,2,none⟩) (v:=.i x.ver) oS Zd;have z2:=Ak (W1:=(w.alloc (.cells (vO x ad cap) 51)).alloc (.cells (vO z ad2 cap2) 51)) (p:=⟨w.1.size+1,2,none⟩) (v:=.i z.ver) Zc Zc;have x3:=Ak (W1:=(w.alloc (.cells (vO x ad cap) 51)).alloc (.cells (vO z ad2 cap2) 51)) (p:=⟨w.1.size,3,none⟩) (v:=.i x.born) oS Zd;have z3:=Ak (W1:=(w.alloc (.cells (vO x ad cap) 51)).alloc (.cells (vO z ad2 cap2) 51)) (p:=⟨w.1.size+1,3,none⟩) (v:=.i z.born) Zc Zc;have x4:=Ak (W1:=(w.alloc (.cells (vO x ad cap) 51)).alloc (.cells (vO z ad2 cap2) 51)) (p:=⟨w.1.size,4,none⟩) (v:=.s x.text) oS Zd;have z4:=Ak (W1:=(w.alloc (.cells (vO x ad cap) 51)).alloc (.cells (vO z ad2 cap2) 51)) (p:=⟨w.1.size+1,4,none⟩) (v:=.s z.text) Zc Zc;have x5:=Ak (W1:=(w.alloc (.cells (vO x ad cap) 51)).alloc (.cells (vO z ad2 cap2) 51)) (p:=⟨w.1.size,5,none⟩) (v:=.bool x.ending) oS Zd;have z5:=Ak (W1:=(w.alloc (.cells (vO x ad cap) 51)).alloc (.cells (vO z ad2 cap2) 51)) (p:=⟨w.1.size+1,5,none⟩) (v:=.bool z.ending) Zc Zc;have x6:=Ak (W1:=(w.alloc (.cells (vO x ad cap) 51)).alloc (.cells (vO z ad2 cap2) 51)) (p:=⟨w.1.size,6,none⟩) (v:=.l ad x.hn cap) oS Zd;have z6:=Ak (W1:=(w.alloc (.cells (vO x ad cap) 51)).alloc (.cells (vO z ad2 cap2) 51)) (p:=⟨w.1.size+1,6,none⟩) (v:=.l ad2 z.hn cap2) Zc Zc;refine AI Ze Ze ?_;repeat(go_big_quiet_step(first|(go_at_call 64;first|exact Bm (RE x ad cap _)|exact Bm (RE z ad2 cap2 _))|(go_at_call 94;go_must(exact Bm (WE _ _ _ _ _)))))
 refine wpQuiet_nil ?_;rintro w2 ⟨u,hu⟩;have hw2:Below ((w.alloc (.cells (vO x ad cap) 51)).alloc (.cells (vO z ad2 cap2) 51)).1.size ((w.alloc (.cells (vO x ad cap) 51)).alloc (.cells (vO z ad2 cap2) 51)) w2:=hu▸u.prop;clear hu u hne x0 x1 x2 x3 x4 x5 x6 z0 z1 z2 z3 z4 z5 z6;go_wp2;go_ret;exact⟨rfl,((An _ _).alloc Zc _).trans (hw2.mono Zd)⟩
theorem Sd (x z:Ob)(ad ad2:OA)(cap cap2:Nat)(w:World):Calls prog 60 #[.agg (vO x ad cap),.agg (vO z ad2 cap2)] w λe w'=>e=.returned (.bool (Fi x z))/\Below w.1.size w w':=by have HE:=Aj (i9 x z);have HB:=Aj (show∀o1 o2:Obj,Below w.1.size w ((w.alloc o1).alloc o2)from λo1 o2=>(An _ _).alloc Zc _);go_enter func60,ntmps60;go_wp2_with (go_at_call 82;refine(WB x z _ _ _ _ _).mono ?_;rintro e w1 ⟨rfl,hb1⟩);go_ret;exact⟨Az HE.symm,(HB _ _).trans (hb1.mono Zd)⟩
theorem RT (n:Nat)(x:Nat->Ob)(ad:OA)(cap:Nat)(w:World)(lo hi:Nat)(hhi:hi<=w.1.size)(hl:(n:Int)<=140737488355328)(hc:BS w lo hi ad n x):Calls prog 59 #[.l ad n cap,.func (.func 60) #[] #[]] w λe w'=>e=.returned (.bool (Lw n x))/\Below w.1.size w w':=by
 go_enter func59,ntmps59;go_wp2;go_loopw[5](λi wr=>∃k:Nat,1<=k/\(k<=n\/k=1)/\i=.i k/\(∀j,j<k->(j==0||Fi (x (j-1)) (x j))=true)/\Below w.1.size w wr)(λi _=>n-(intOf i).toNat);case atStart=>exact⟨1,AG _,AE rfl,rfl,λj hj=>(by have:j=0:=Za;subst this;rfl),Aq _ _⟩
 case round=>
  obtain⟨k,hk1,hk,rfl,hall,hb⟩:=hrel;by_cases hkn:k<n
  .obtain⟨m,rfl⟩:∃m,k=m+1:=⟨k-1,Za⟩;obtain⟨b,off,ah,ch,rfl,hlo,hbh,hcx,_⟩:=hc (m+1) hkn;obtain⟨b',off',ah',ch',e,_,hbh',hcm,_⟩:=hc m Za;cases e;obtain⟨d0,d1,d2,d3,d4,d5,d6⟩:=hcx.below hb Za;obtain⟨q0,q1,q2,q3,q4,q5,q6⟩:=hcm.below hb Za;have hbw:b<wr.1.size:=by have:=hb.size;omega
   have rd0:=Ak d0 hbw;have rd1:=Ak d1 hbw;have rd2:=Ak d2 hbw;have rd3:=Ak d3 hbw;have rd4:=Ak d4 hbw;have rd5:=Ak d5 hbw;have rd6:=Ak d6 hbw;have rp0:=Ak q0 hbw;have rp1:=Ak q1 hbw;have rp2:=Ak q2 hbw;have rp3:=Ak q3 hbw;have rp4:=Ak q4 hbw;have rp5:=Ak q5 hbw;have rp6:=Ak q6 hbw;have hne:Nonempty (GW wr):=⟨⟨wr,Aq _ _⟩⟩;have HA:=Aj hall;have hkz:(m:Int)+1<=n:=Za;clear hall hc hk hcx hcm d0 d1 d2 d3 d4 d5 d6 q0 q1 q2 q3 q4 q5 q6;cases hlt:Fi (x m) (x (m+1))with
   |false=>
    have HE:=Aj (show Lw n x=false from A9 (p:=λi=>i==0||Fi (x (i-1)) (x i)) hkn (by simp[hlt]));go_wp2;refine AI Ze Ze ?_;repeat(go_big_quiet_step((go_at_call 60;go_must(exact Bm (Sd (x m) (x (m+1)) _ _ _ _ _)))))
    refine wpQuiet_nil ?_;rintro w2 ⟨u,hu⟩;have hw2:Below wr.1.size wr w2:=hu▸u.prop;clear hu u;go_wp2;go_ret;exact⟨Az HE.symm,hb.trans (hw2.mono hb.size)⟩
   |true=>
    have HN:=Aj (show(m+1==0||Fi (x (m+1-1)) (x (m+1)))=true by simp[hlt]);go_wp2;refine AI Ze Ze ?_;repeat(go_big_quiet_step((go_at_call 60;go_must(exact Bm (Sd (x m) (x (m+1)) _ _ _ _ _)))))
    refine wpQuiet_nil ?_;rintro w2 ⟨u,hu⟩;have hw2:Below wr.1.size wr w2:=hu▸u.prop;clear hu u;go_wp2;go_roundw;case rel=>exact⟨m+2,Za,AB Za,by go_num,λj hj=>(by
     rcases Aw j (m+1)with h3|h3;.exact HA j h3
     .have:j=m+1:=Za;subst this;exact HN),hb.trans (hw2.mono hb.size)⟩
    case measure=>simp[intOf];omega
  .have HE:=Aj (show Lw n x=true from AV.2 (λi hi=>hall i Za));clear hall hc hk;go_wp2;go_ret;exact⟨Az HE.symm,hb⟩
def Fg (n:Nat)(x:Nat->Ob)(now:Int):Bool:=decide (n<=100)&&(Lw n x&&MB n x now)
theorem Qt (now floor:Int)(n:Nat)(x:Nat->Ob)(a1 a2 a3:OA)(c1 n2 c2 n3 c3:Nat)(w:World)(lo hi:Nat)(hhi:hi<=w.1.size)(hl:(n:Int)<=1099511627776)(hf:∀i,i<n->Ec (x i))(hc:BS w lo hi a1 n x):Calls prog 31 #[.agg #[.i now,.i floor,.l a1 n c1,.l a2 n2 c2,.l a3 n3 c3]] w λe w'=>e=.returned (.bool (Fg n x now))/\Below w.1.size w w':=by
 have hcA:=λo=>hc.below (An w o) hhi;by_cases h100:(100:Int)<n;.have HE:=Aj (show Fg n x now=false by unfold Fg;rw[decide_eq_false Za];rfl);go_enter func31,ntmps31;go_wp2;go_ret;exact⟨Az HE.symm,An _ _⟩
 cases ha:Lw n x with
 |false=>have HE:=Aj (show Fg n x now=false by unfold Fg;rw[ha];simp);go_enter func31,ntmps31;go_wp2_with (go_at_call 59;refine(RT n x a1 c1 _ lo hi Zd Za (hcA _)).mono ?_;rintro e w1 ⟨rfl,hb1⟩);go_ret;exact⟨Az HE.symm,(An _ _).trans (hb1.mono Zc)⟩
 |true=>
  have sV:=Aj ha;go_enter func31,ntmps31;go_wp2_with (go_at_call 59;refine(RT n x a1 c1 _ lo hi Zd Za (hcA _)).mono ?_;rintro e w1 ⟨rfl,hb1⟩;have k0:=Au hb1 0;have k2:=Au hb1 2;simp only[Ag,Af,Ae]at k0 k2;have hB1:Below w.1.size w w1:=(An _ _).trans (hb1.mono Zc);have hz1:w.1.size<w1.1.size:=(by have:=hb1.size;simp at this;omega);clear hb1);go_loopw[18](λi wr=>∃k:Nat,k<=n/\i=.i k/\(∀j,j<k->Bq (x j) now=true/\C6 (x j)=true)/\Below w.1.size w wr/\w.1.size<wr.1.size/\wr.cell? ⟨w.1.size,0,none⟩=some (.i now))(λi _=>n-(intOf i).toNat);case atStart=>exact⟨0,At _,rfl,λj hj=>absurd hj (Ai _),hB1,hz1,k0⟩
  case round=>
   obtain⟨k,hk,rfl,hall,hb,hz,hb0⟩:=hrel;by_cases hkn:k<n
   .obtain⟨b,off,ah,ch,rfl,hlo,hbh,hcx,hsx⟩:=hc k hkn;have hfk:=hf k hkn;have hfh:((x k).hn:Int)<=140737488355328:=by have:=hfk.h;omega
    obtain⟨d0,d1,d2,d3,d4,d5,d6⟩:=hcx.below hb Za;have hs1:=hsx.below hb hhi;have HA:=Aj hall;clear hall hc hf hcx hsx hcA k0 k2 hB1 hz1 ha;cases hp:Bq (x k) now with
    |false=>have HE:=Aj (show Fg n x now=false by unfold Fg MB;rw[A9 (p:=λi=>Bq (x i) now&&C6 (x i)) hkn (by rw[hp];rfl)];simp);go_wp2_with (go_at_call 61;refine(L9 (x k) now ah ch _ lo hi Zy hfk (hs1.alloc (by have:=hb.size;omega) _)).mono ?_;rintro e w2 ⟨rfl,hb2⟩);go_ret;exact⟨Az HE.symm,(hb.alloc hb.size _).trans (hb2.mono Zy)⟩
    |true=>
     have HP:=Aj hp;go_wp2_with (go_at_call 61;refine(L9 (x k) now ah ch _ lo hi Zy hfk (hs1.alloc (by have:=hb.size;omega) _)).mono ?_;rintro e w2 ⟨rfl,hb2⟩;have t0:=Au hb2 0;have t1:=Au hb2 1;have t2:=Au hb2 2;have t3:=Au hb2 3;have t4:=Au hb2 4;have t5:=Au hb2 5;have t6:=Au hb2 6;simp only[Ag,Af,Ae]at t0 t1 t2 t3 t4 t5 t6);refine(PH (x k) ah ch _ hfh).mono ?_;rintro e w3 ⟨rfl,hb3⟩;have hB2:Below w.1.size w w2:=(hb.alloc hb.size _).trans (hb2.mono Zy);have hB3:Below w.1.size w w3:=hB2.trans (hb3.mono hB2.size);have hz2:wr.1.size<w2.1.size:=by have:=hb2.size;simp at this;omega
     have h00:w3.cell? ⟨w.1.size,0,none⟩=some (.i now):=(hb3.cell (p:=⟨w.1.size,0,none⟩) Zg).trans ((hb2.cell (p:=⟨w.1.size,0,none⟩) Zd).trans ((As _ _ _ hz).trans hb0));have hz3:w.1.size<w3.1.size:=by have:=hb3.size;omega
     clear t0 t1 t2 t3 t4 t5 t6 d0 d1 d2 d3 d4 d5 d6 hs1 hb2 hb3;cases hst:C6 (x k)with
     |false=>have HE:=Aj (show Fg n x now=false by unfold Fg MB;rw[A9 (p:=λi=>Bq (x i) now&&C6 (x i)) hkn (by rw[hp,hst];rfl)];simp);go_wp2;go_ret;exact⟨Az HE.symm,hB3⟩
     |true=>
      have HS:=Aj hst;go_wp2;go_roundw;case rel=>exact⟨k+1,Za,by go_num,λj hj=>(by
       rcases Aw j k with h3|h3;.exact HA j h3
       .have:j=k:=Za;subst this;exact⟨HP,HS⟩),hB3,hz3,h00⟩
      case measure=>simp[intOf];omega
   .have HE:=Aj (show Fg n x now=true by unfold Fg MB;rw[sV.out,decide_eq_true (show n<=100 by omega),AV.2 (λi hi=>by rw[(hall i Za).1,(hall i Za).2];rfl)];rfl);clear hall hc hf hcA;go_wp2;go_ret;exact⟨Az HE.symm,hb⟩
end Go.Proofs.YtnnjcenacidceaaGreat
