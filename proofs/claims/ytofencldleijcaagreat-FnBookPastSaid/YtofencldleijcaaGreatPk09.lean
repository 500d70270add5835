import Derived.Test.YtofencldleijcaaGreatPk02
import Derived.Test.YtofencldleijcaaGreatPk05
import Derived.Deep.QuietTactic
import Derived.BigQuiet
import Derived.Test.YtofencldleijcaaGreatPk07
set_option maxRecDepth 100000
set_option maxHeartbeats 1000000
namespace Go.Proofs.YtofencldleijcaaGreat
open Go.RowKit Go.Proofs.Tryz
theorem NM (x:Ob)(ad:OA)(cap:Nat)(w:World):Calls prog 23 #[.agg (vO x ad cap)] w λe w'=>e=.returned (.agg #[.s x.kind,.s x.name])/\Below w.1.size w w':=by go_enter func23,ntmps23;go_wp2;refine bodyPost_ret (v:=.agg #[.s x.kind,.s x.name]) (by simp[results,results23,go_sem]) rfl ⟨rfl,?_⟩;exact((Am _ _).alloc Zc _)
theorem L3:∀a:List UInt8,Op.bytesLess a a=false
 |[]=>rfl
 |x::a=>by simp[Op.bytesLess,L3 a]
theorem QJ (x z:Ob):CN x z=decide (KV (Cl x.kind z.kind) (Cl x.name z.name)<0):=by
 unfold CN KV Cl;by_cases h2:x.kind.toList=z.kind.toList
 .have h1:ER x.kind z.kind=false:=by unfold ER;rw[h2];exact L3 _
  simp only[h1,h2,if_true,Es,if_false];cases h3:ER x.name z.name with
  |true=>simp
  |false=>by_cases h4:x.name.toList=z.name.toList<;>simp[h4]
 .cases h1:ER x.kind z.kind with
  |true=>simp[h2]
  |false=>simp[h2]
theorem SZ (x z:Ob)(ad ad2:OA)(cap cap2:Nat)(w:World):Calls prog 26 #[.agg (vO x ad cap),.agg (vO z ad2 cap2)] w λe w'=>e=.returned (.i (KV (Cl x.kind z.kind) (Cl x.name z.name)))/\Below w.1.size w w':=by
 go_enter func26,ntmps26;go_wp2;have hne:Nonempty (GW ((w.alloc (.cells (vO x ad cap) 61)).alloc (.cells (vO z ad2 cap2) 61))):=⟨⟨_,Al _ _⟩⟩;have x0:=Ah (W1:=(w.alloc (.cells (vO x ad cap) 61)).alloc (.cells (vO z ad2 cap2) 61)) (p:=⟨w.1.size,0,none⟩) (v:=.s x.kind) fR Zd;have z0:=Ah (W1:=(w.alloc (.cells (vO x ad cap) 61)).alloc (.cells (vO z ad2 cap2) 61)) (p:=⟨w.1.size+1,0,none⟩) (v:=.s z.kind) Zc Zc;have x1:=Ah (W1:=(w.alloc (.cells (vO x ad cap) 61)).alloc (.cells (vO z ad2 cap2) 61)) (p:=⟨w.1.size,1,none⟩) (v:=.s x.name) fR Zd;have z1:=Ah (W1:=(w.alloc (.cells (vO x ad cap) 61)).alloc (.cells (vO z ad2 cap2) 61)) (p:=⟨w.1.size+1,1,none⟩) (v:=.s z.name) Zc Zc;have x2:=Ah (W1:=(w.alloc (.cells (vO x ad cap) 61)).alloc (.cells (vO z ad2 cap2) 61)) (p:=⟨w.1.size,2,none⟩) (v:=.i x.ver) fR Zd;have z2:=Ah (W1:=(w.alloc (.cells (vO x ad cap) 61)).alloc (.cells (vO z ad2 cap2) 61)) (p:=⟨w.1.size+1,2,none⟩) (v:=.i z.ver) Zc Zc;have x3:=Ah (W1:=(w.alloc (.cells (vO x ad cap) 61)).alloc (.cells (vO z ad2 cap2) 61)) (p:=⟨w.1.size,3,none⟩) (v:=.i x.born) fR Zd;have z3:=Ah (W1:=(w.alloc (.cells (vO x ad cap) 61)).alloc (.cells (vO z ad2 cap2) 61)) (p:=⟨w.1.size+1,3,none⟩) (v:=.i z.born) Zc Zc;have x4:=Ah (W1:=(w.alloc (.cells (vO x ad cap) 61)).alloc (.cells (vO z ad2 cap2) 61)) (p:=⟨w.1.size,4,none⟩) (v:=.s x.text) fR Zd;have z4:=Ah (W1:=(w.alloc (.cells (vO x ad cap) 61)).alloc (.cells (vO z ad2 cap2) 61)) (p:=⟨w.1.size+1,4,none⟩) (v:=.s z.text) Zc Zc;have x5:=Ah (W1:=(w.alloc (.cells (vO x ad cap) 61)).alloc (.cells (vO z ad2 cap2) 61)) (p:=⟨w.1.size,5,none⟩) (v:=.bool x.ending) fR Zd;have z5:=Ah (W1:=(w.alloc (.cells (vO x ad cap) 61)).alloc (.cells (vO z ad2 cap2) 61)) (p:=⟨w.1.size+1,5,none⟩) (v:=.bool z.ending) Zc Zc;have x6:=Ah (W1:=(w.alloc (.cells (vO x ad cap) 61)).alloc (.cells (vO z ad2 cap2) 61)) (p:=⟨w.1.size,6,none⟩) (v:=.l ad x.hn cap) fR Zd;have z6:=Ah (W1:=(w.alloc (.cells (vO x ad cap) 61)).alloc (.cells (vO z ad2 cap2) 61)) (p:=⟨w.1.size+1,6,none⟩) (v:=.l ad2 z.hn cap2) Zc Zc;refine AA Ze Ze ?_;repeat(go_big_quiet_step(first|(go_at_call 23;first|exact Bf (NM x ad cap _)|exact Bf (NM z ad2 cap2 _))|(go_at_call 58;go_must(exact Bf (SI _ _ _ _ _)))))
 refine wpQuiet_nil ?_;rintro w2 ⟨u,hu⟩;have hw2:Below ((w.alloc (.cells (vO x ad cap) 61)).alloc (.cells (vO z ad2 cap2) 61)).1.size ((w.alloc (.cells (vO x ad cap) 61)).alloc (.cells (vO z ad2 cap2) 61)) w2:=hu▸u.prop;clear hu u hne x0 x1 x2 x3 x4 x5 x6 z0 z1 z2 z3 z4 z5 z6;go_wp2;go_ret;exact⟨rfl,((Am _ _).alloc Zc _).trans (hw2.mono Zd)⟩
theorem NH (x z:Ob)(ad ad2:OA)(cap cap2:Nat)(w:World):Calls prog 73 #[.agg (vO x ad cap),.agg (vO z ad2 cap2)] w λe w'=>e=.returned (.bool (CN x z))/\Below w.1.size w w':=by have HE:=Ag (QJ x z);have HB:=Ag (show∀o1 o2:Obj,Below w.1.size w ((w.alloc o1).alloc o2)from λo1 o2=>(Am _ _).alloc Zc _);go_enter func73,ntmps73;go_wp2_with (go_at_call 26;refine(SZ x z _ _ _ _ _).mono ?_;rintro e w1 ⟨rfl,hb1⟩);go_ret;exact⟨Av HE.symm,(HB _ _).trans (hb1.mono Zd)⟩
theorem Nj (n:Nat)(x:Nat->Ob)(ad:OA)(cap:Nat)(w:World)(lo hi:Nat)(hhi:hi<=w.1.size)(hl:(n:Int)<=140737488355328)(hc:Bs w lo hi ad n x):Calls prog 72 #[.l ad n cap,.func (.func 73) #[] #[]] w λe w'=>e=.returned (.bool (E3 n x))/\Below w.1.size w w':=by
 go_enter func72,ntmps72;go_wp2;go_loopw[5](λi wr=>∃k:Nat,1<=k/\(k<=n\/k=1)/\i=.i k/\(∀j,j<k->(j==0||CN (x (j-1)) (x j))=true)/\Below w.1.size w wr)(λi _=>n-(intOf i).toNat);case atStart=>exact⟨1,Az _,AD rfl,rfl,λj hj=>(by have:j=0:=Zb;subst this;rfl),Al _ _⟩
 case round=>
  obtain⟨k,hk1,hk,rfl,hall,hb⟩:=hrel;by_cases hkn:k<n
  .obtain⟨m,rfl⟩:∃m,k=m+1:=⟨k-1,Zb⟩;obtain⟨b,off,ah,ch,rfl,hlo,hbh,hcx,_⟩:=hc (m+1) hkn;obtain⟨b',off',ah',ch',e,_,hbh',hcm,_⟩:=hc m Zb;cases e;obtain⟨d0,d1,d2,d3,d4,d5,d6⟩:=hcx.below hb Zb;obtain⟨q0,q1,q2,q3,q4,q5,q6⟩:=hcm.below hb Zb;have hbw:b<wr.1.size:=by have:=hb.size;omega
   have rd0:=Ah d0 hbw;have rd1:=Ah d1 hbw;have rd2:=Ah d2 hbw;have rd3:=Ah d3 hbw;have rd4:=Ah d4 hbw;have rd5:=Ah d5 hbw;have rd6:=Ah d6 hbw;have rp0:=Ah q0 hbw;have rp1:=Ah q1 hbw;have rp2:=Ah q2 hbw;have rp3:=Ah q3 hbw;have rp4:=Ah q4 hbw;have rp5:=Ah q5 hbw;have rp6:=Ah q6 hbw;have hne:Nonempty (GW wr):=⟨⟨wr,Al _ _⟩⟩;have HA:=Ag hall;have hkz:(m:Int)+1<=n:=Zb;clear hall hc hk hcx hcm d0 d1 d2 d3 d4 d5 d6 q0 q1 q2 q3 q4 q5 q6;cases hlt:CN (x m) (x (m+1))with
   |false=>
    have HE:=Ag (show E3 n x=false from AV (p:=λi=>i==0||CN (x (i-1)) (x i)) hkn (by simp[hlt]));go_wp2;refine AA Ze Ze ?_;repeat(go_big_quiet_step((go_at_call 73;go_must(exact Bf (NH (x m) (x (m+1)) _ _ _ _ _)))))
    refine wpQuiet_nil ?_;rintro w2 ⟨u,hu⟩;have hw2:Below wr.1.size wr w2:=hu▸u.prop;clear hu u;go_wp2;go_ret;exact⟨Av HE.symm,hb.trans (hw2.mono hb.size)⟩
   |true=>
    have HN:=Ag (show(m+1==0||CN (x (m+1-1)) (x (m+1)))=true by simp[hlt]);go_wp2;refine AA Ze Ze ?_;repeat(go_big_quiet_step((go_at_call 73;go_must(exact Bf (NH (x m) (x (m+1)) _ _ _ _ _)))))
    refine wpQuiet_nil ?_;rintro w2 ⟨u,hu⟩;have hw2:Below wr.1.size wr w2:=hu▸u.prop;clear hu u;go_wp2;go_roundw;case rel=>exact⟨m+2,Zb,AO Zb,by go_num,λj hj=>(by
     rcases At j (m+1)with h3|h3;.exact HA j h3
     .have:j=m+1:=Zb;subst this;exact HN),hb.trans (hw2.mono hb.size)⟩
    case measure=>simp[intOf];omega
  .have HE:=Ag (show E3 n x=true from AC.2 (λi hi=>hall i Zb));clear hall hc hk;go_wp2;go_ret;exact⟨Av HE.symm,hb⟩
def DK (n:Nat)(x:Nat->Ob)(now:Int):Bool:=decide (n<=100)&&(E3 n x&&Hs n x now)
theorem Mi (now floor:Int)(n:Nat)(x:Nat->Ob)(a1 a2 a3:OA)(c1 n2 c2 n3 c3:Nat)(w:World)(lo hi:Nat)(hhi:hi<=w.1.size)(hl:(n:Int)<=1099511627776)(hf:∀i,i<n->DD (x i))(hc:Bs w lo hi a1 n x):Calls prog 47 #[.agg #[.i now,.i floor,.l a1 n c1,.l a2 n2 c2,.l a3 n3 c3]] w λe w'=>e=.returned (.bool (DK n x now))/\Below w.1.size w w':=by
 have hcA:=λo=>hc.below (Am w o) hhi;by_cases h100:(100:Int)<n;.have HE:=Ag (show DK n x now=false by unfold DK;rw[decide_eq_false Zb];rfl);go_enter func47,ntmps47;go_wp2;go_ret;exact⟨Av HE.symm,Am _ _⟩
 cases ha:E3 n x with
 |false=>have HE:=Ag (show DK n x now=false by unfold DK;rw[ha];simp);go_enter func47,ntmps47;go_wp2_with (go_at_call 72;refine(Nj n x a1 c1 _ lo hi Zd Zb (hcA _)).mono ?_;rintro e w1 ⟨rfl,hb1⟩);go_ret;exact⟨Av HE.symm,(Am _ _).trans (hb1.mono Zc)⟩
 |true=>
  have eI:=Ag ha;go_enter func47,ntmps47;go_wp2_with (go_at_call 72;refine(Nj n x a1 c1 _ lo hi Zd Zb (hcA _)).mono ?_;rintro e w1 ⟨rfl,hb1⟩;have k0:=As hb1 0;have k2:=As hb1 2;simp only[Ac,Ab,Aa]at k0 k2;have hB1:Below w.1.size w w1:=(Am _ _).trans (hb1.mono Zc);have hz1:w.1.size<w1.1.size:=lA;clear hb1);go_loopw[18](λi wr=>∃k:Nat,k<=n/\i=.i k/\(∀j,j<k->Bh (x j) now=true/\CJ (x j)=true)/\Below w.1.size w wr/\w.1.size<wr.1.size/\wr.cell? ⟨w.1.size,0,none⟩=some (.i now))(λi _=>n-(intOf i).toNat);case atStart=>exact⟨0,Aw _,rfl,λj hj=>absurd hj (Ai _),hB1,hz1,k0⟩
  case round=>
   obtain⟨k,hk,rfl,hall,hb,hz,hb0⟩:=hrel;by_cases hkn:k<n
   .obtain⟨b,off,ah,ch,rfl,hlo,hbh,hcx,hsx⟩:=hc k hkn;have hfk:=hf k hkn;have hfh:((x k).hn:Int)<=140737488355328:=by have:=hfk.h;omega
    obtain⟨d0,d1,d2,d3,d4,d5,d6⟩:=hcx.below hb Zb;have hs1:=hsx.below hb hhi;have HA:=Ag hall;clear hall hc hf hcx hsx hcA k0 k2 hB1 hz1 ha;cases hp:Bh (x k) now with
    |false=>have HE:=Ag (show DK n x now=false by unfold DK Hs;rw[AV (p:=λi=>Bh (x i) now&&CJ (x i)) hkn (by rw[hp];rfl)];simp);go_wp2_with (go_at_call 74;refine(Gt (x k) now ah ch _ lo hi Vr hfk (hs1.alloc (by have:=hb.size;omega) _)).mono ?_;rintro e w2 ⟨rfl,hb2⟩);go_ret;exact⟨Av HE.symm,(hb.alloc hb.size _).trans (hb2.mono Vr)⟩
    |true=>
     have HP:=Ag hp;go_wp2_with (go_at_call 74;refine(Gt (x k) now ah ch _ lo hi Vr hfk (hs1.alloc (by have:=hb.size;omega) _)).mono ?_;rintro e w2 ⟨rfl,hb2⟩;have t0:=As hb2 0;have t1:=As hb2 1;have t2:=As hb2 2;have t3:=As hb2 3;have t4:=As hb2 4;have t5:=As hb2 5;have t6:=As hb2 6;simp only[Ac,Ab,Aa]at t0 t1 t2 t3 t4 t5 t6);refine(Ld (x k) ah ch _ hfh).mono ?_;rintro e w3 ⟨rfl,hb3⟩;have hB2:Below w.1.size w w2:=(hb.alloc hb.size _).trans (hb2.mono Vr);have hB3:Below w.1.size w w3:=hB2.trans (hb3.mono hB2.size);have hz2:wr.1.size<w2.1.size:=by have:=hb2.size;simp at this;omega
     have h00:w3.cell? ⟨w.1.size,0,none⟩=some (.i now):=(hb3.cell (p:=⟨w.1.size,0,none⟩) Zg).trans ((hb2.cell (p:=⟨w.1.size,0,none⟩) Zd).trans ((Aq _ _ _ hz).trans hb0));have hz3:w.1.size<w3.1.size:=by have:=hb3.size;omega
     clear t0 t1 t2 t3 t4 t5 t6 d0 d1 d2 d3 d4 d5 d6 hs1 hb2 hb3;cases hst:CJ (x k)with
     |false=>have HE:=Ag (show DK n x now=false by unfold DK Hs;rw[AV (p:=λi=>Bh (x i) now&&CJ (x i)) hkn (by rw[hp,hst];rfl)];simp);go_wp2;go_ret;exact⟨Av HE.symm,hB3⟩
     |true=>
      have HS:=Ag hst;go_wp2;go_roundw;case rel=>exact⟨k+1,Zb,by go_num,λj hj=>(by
       rcases At j k with h3|h3;.exact HA j h3
       .have:j=k:=Zb;subst this;exact⟨HP,HS⟩),hB3,hz3,h00⟩
      case measure=>simp[intOf];omega
   .have HE:=Ag (show DK n x now=true by unfold DK Hs;rw[eI.out,decide_eq_true (show n<=100 by omega),AC.2 (λi hi=>by rw[(hall i Zb).1,(hall i Zb).2];rfl)];rfl);clear hall hc hf hcA;go_wp2;go_ret;exact⟨Av HE.symm,hb⟩
end Go.Proofs.YtofencldleijcaaGreat
