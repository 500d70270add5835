import Derived.Test.YtnnjcenacidceaaPk15
import Derived.Test.YtnnjcenacidceaaPk14
import Derived.Test.YtnnjcenacidceaaPk12
import Derived.Deep.RegionWith
import Derived.Test.YtnnjcenacidceaaPk02
import Derived.Shelf.Spec.SlicesGrow
import Derived.Laws.AppendOwnNone
set_option maxRecDepth 100000
set_option maxHeartbeats 2000000
namespace Go.Proofs.Ytnnjcenacidceaa
open Go.RowKit Go.Maps Go.Proofs.Try
theorem Ut{h:Nat->Ch}{i n:Nat}(hi:i<n):∃i',L6 h (h i).ob.kind (h i).ob.name n=some i':=by induction n with
 |zero=>omega
 |succ n ih=>
  by_cases h2:(h n).ob.kind=(h i).ob.kind/\(h n).ob.name=(h i).ob.name;.exact⟨n,OQ h2⟩
  .rw[OJ h2];rcases Au i n with h3|h3;.exact ih h3
   .have:i=n:=Za;subst this;exact absurd ⟨rfl,rfl⟩ h2
def agO (floor:Int)(x:Nat->Ob)(n:Nat)(h:Nat->Ch)(i:Nat):Bool:=match L6 h (x i).kind (x i).name n with|none=>decide ((x i).ver<=floor)|some j=>!(h j).gone&&BR (x i) (h j).ob
def agH (m:Nat)(x:Nat->Ob)(n:Nat)(h:Nat->Ch)(i:Nat):Bool:=!decide (L6 h (h i).ob.kind (h i).ob.name n=some i)||((h i).gone||(Nq x (h i).ob.kind (h i).ob.name m).isSome)
def Qs (floor:Int)(m:Nat)(x:Nat->Ob)(n:Nat)(h:Nat->Ch):Bool:=Bc (agO floor x n h) m&&Bc (agH m x n h) n
theorem Wx{P:Prop}(h:P:=by
  rw[hg]at r1;clear hg;go_wp2_with (at_lookup;go_must(refine wpList_lookup_own_int _ rfl _ _ 80 rfl 82 3 .i64 Cx underlying80 underlying3 (Nm _) (w.1.size+1) n D rfl hD2 _ _ rfl hky ?_;intro c2 hat hwc;have hci:c2=(i':Int):=OV (hat.symm.trans Vx);subst hci;clear hat hwc));go_roundw;case rel=>exact⟨i'+1,Za,by go_num,hB2,hE2,λj hj=>(by
   rcases Au j i' with h3|h3;.exact HA j h3
   .have:j=i':=Za;subst this;exact HN)⟩
  case measure=>simp[intOf];omega):P:=h
theorem dP{P:Prop}(h:P:=by
  have HN:=Ah (show agH m x n h k=true by unfold agH;rw[SB.out];simp[hii]);have hd:((i':Int)==(k:Int))=false:=Zd;go_wp2_with (at_lookup;go_must(refine wpList_lookup_own_int _ rfl _ _ 80 rfl 82 3 .i64 Cx underlying80 underlying3 (Nm _) (w.1.size+1) n D rfl hD2 _ _ rfl hky ?_;intro c2 hat hwc;have hci:c2=(i':Int):=OV (hat.symm.trans Vx);subst hci;clear hat hwc));go_roundw;case rel=>exact⟨k+1,Za,by go_num,hB2,hE2,λj hj=>(by
   rcases Au j k with h3|h3;.exact HA j h3
   .have:j=k:=Za;subst this;exact HN)⟩
  case measure=>simp[intOf];omega):P:=h
theorem ZR{P:Prop}(h:P:=by
  have hne:Nonempty (GW w1):=⟨⟨_,Ao _ _⟩⟩;refine AE Ze Ze ?_;repeat(go_big_quiet_step((go_at_call 54;go_must(exact Bf (RH (x k) (h j).ob ah ah' ch ch' _ lo hi (hhu _) hxh hjh (hu1 _) (hu2 _))))))
  refine wpQuiet_nil ?_;rintro w2 ⟨u,hu⟩;have hw2:Below w1.1.size w1 w2:=hu▸u.prop;clear hu u hne;have hB2:=hB1.trans (hw2.mono Za);clear hown1 hhu hu1 hu2 z3 x0 x1 x2 x3 x4 x5 x6 y1 y2 y3 y4 y5 y6 y7 y8 p0 p1 p2 p3 p4 p5 p6 o1 o3;go_wp2;go_ret;exact⟨Ay HE.symm,(Am _ _).trans (hB2.mono Za)⟩):P:=h
theorem cL{P:Prop}(h:P:=by
  go_wp2;go_roundw;case rel=>exact⟨k+1,Za,by go_num,hB2,hown2,λj hj=>(by
   rcases Au j k with h3|h3;.exact HA j h3
   .have:j=k:=Za;subst this;exact HN)⟩
  case measure=>simp[intOf];omega):P:=h
theorem SX (now floor:Int)(m n:Nat)(x:Nat->Ob)(h:Nat->Ch)(a1 a2 a3:OA)(c1 c2 n3 c3:Nat)(w:World)(lo hi:Nat)(hhi:hi<=w.1.size)(hm:(m:Int)<=1099511627776)(hl:(n:Int)<=1099511627776)(hx:∀i,i<m->Ef (x i))(hf:∀i,i<n->Ef (h i).ob)(hco:B4 w lo hi a1 m x)(hc:CO w lo hi a2 n h):Calls prog 30 #[.agg #[.i now,.i floor,.l a1 m c1,.l a2 n c2,.l a3 n3 c3]] w λe w'=>e=.returned (.bool (Qs floor m x n h))/\Below w.1.size w w':=by
 have hcA:=λo=>hc.below (Am w o) hhi;go_enter func30,ntmps30;go_wp2_with fail;refine(Vd n h a2 c2 _ lo hi Zd hl hf (hcA _)).mono ?_;rintro e w0 ⟨D,rfl,hown0,htold,hb0⟩;simp only[Aw]at hown0 hb0⊢;have k2:w0.cell? ⟨w.1.size,2,none⟩=some (.slice a1 m c1):=(hb0.cell (p:=⟨w.1.size,2,none⟩) Zg).trans (Ak _ _ _ _);have sE:=Ah hown0;have vF:=Ah htold;clear hown0 htold hcA;go_wp2;go_loopw[19](λi wr=>∃k:Nat,k<=m/\i=.i k/\Below (w.1.size+1) (w.alloc (.cells #[.i now,.i floor,.l a1 m c1,.l a2 n c2,.l a3 n3 c3] 27)) wr/\wr.ownsMap prog 82 (plainElem prog 3) (w.1.size+1) n D/\∀j,j<k->agO floor x n h j=true)(λi _=>m-(intOf i).toNat);case atStart=>exact⟨0,At _,rfl,hb0,sE,λj hj=>absurd hj (Aj _)⟩
 case round=>
  obtain⟨k,hk,rfl,hb,hown,hall⟩:=hrel;have hBw:Below w.1.size w wr:=(Am _ _).trans (hb.mono Za);have hsz:w.1.size+1<=wr.1.size:=by have:=hb.size;simpa using this
  have hlt:=hown.lt;clear k2 sE hb0;by_cases hkn:k<m
  .obtain⟨b,off,ah,ch,rfl,hlo,hbh,hcx,hsx⟩:=hco k hkn;have hxk:=hx k hkn;have hxh:((x k).hn:Int)<=140737488355328:=by have:=hxk.h;omega
   have hsk:(x k).kind.size<=maxLen:=by unfold maxLen;have:=hxk.k;omega
   have hsn:(x k).name.size<=maxLen:=by unfold maxLen;have:=hxk.n;omega
   obtain⟨d0,d1,d2,d3,d4,d5,d6⟩:=hcx.below hBw Za;have HS:=Ah hsx;have HC:=Ah hc;have HF:=Ah hf;have HA:=Ah hall;have hky:=N8 (x k).kind (x k).name hsk hsn;have NP:=Ah hown;clear hc hf hco hx hcx hsx hall hown;cases hfd:L6 h (x k).kind (x k).name n with
   |none=>
    have hhas:=(vF _ _ hsk hsn).2 hfd;have HL:=Ah (show agO floor x n h k=decide ((x k).ver<=floor)by unfold agO;rw[hfd]);clear hfd;go_wp2_with fail;refine(BU (x k) ah ch _).mono ?_;rintro e w1 ⟨rfl,hb1⟩;have hown1:=Ah (BC (NP.alloc _) hb1 Zd);have hB1:Below (w.1.size+1) (w.alloc (.cells #[.i now,.i floor,.l (some ⟨b,off,none⟩) m c1,.l a2 n c2,.l a3 n3 c3] 27)) w1:=(hb.alloc hsz (.cells (vO (x k) ah ch) 38)).trans (hb1.mono Zd);have hz1:wr.1.size<w1.1.size:=by have:=hb1.size;simp at this;omega
    have p0:=Ar hb1 0;have p1:=Ar hb1 1;have p2:=Ar hb1 2;have p3:=Ar hb1 3;have p4:=Ar hb1 4;have p5:=Ar hb1 5;have p6:=Ar hb1 6;simp only[Af,Ae,Ad]at p0 p1 p2 p3 p4 p5 p6;have o1:=Ar Yz 1;have o3:=Ar Yz 3;simp only[Af,Ae,Ad]at o1 o3;clear hb1 d0 d1 d2 d3 d4 d5 d6 NP;by_cases hv:(x k).ver<=floor
    .have HN:=Ah (show agO floor x n h k=true by rw[HL.out];exact decide_eq_true hv);have hd:decide (floor<(x k).ver)=false:=decide_eq_false Za;go_wp2_with (at_lookup;go_must(refine wpList_lookup_own_ok_int _ rfl _ _ 80 rfl 82 3 .i64 Cx underlying80 underlying3 (Nm _) (w.1.size+1) n D rfl hown1 _ _ rfl hky ?_;intro c hat hwc;clear hat hwc));have hne:Nonempty (GW w1):=⟨⟨_,Ao _ _⟩⟩;refine AE Ze Ze ?_;repeat(go_big_quiet_step(fail))
     refine wpQuiet_nil ?_;rintro w2 ⟨u,hu⟩;have hw2:Below w1.1.size w1 w2:=hu▸u.prop;clear hu u hne;have hB2:=hB1.trans (hw2.mono Za);have hown2:=Ah (BC hown1 hw2 hown1.lt);clear hown1 p0 p1 p2 p3 p4 p5 p6 o1 o3;exact cL
    .have HE:=Ah (show Qs floor m x n h=false by unfold Qs;rw[AX hkn (HL.trans (decide_eq_false hv))];rfl);have hd:decide (floor<(x k).ver)=true:=decide_eq_true Za;go_wp2_with (at_lookup;go_must(refine wpList_lookup_own_ok_int _ rfl _ _ 80 rfl 82 3 .i64 Cx underlying80 underlying3 (Nm _) (w.1.size+1) n D rfl hown1 _ _ rfl hky ?_;intro c hat hwc;clear hat hwc));go_ret;exact⟨Ay HE.symm,(Am _ _).trans (hB1.mono Za)⟩
   |some j=>
    obtain⟨hhas,hatk⟩:=(vF _ _ hsk hsn).1 j hfd;have hjn:=(Mn hfd).1;have HL:=Ah (show agO floor x n h k=(!(h j).gone&&BR (x k) (h j).ob)by unfold agO;rw[hfd]);have Vx:=Ah hatk;clear hfd hatk;obtain⟨b',off',ah',ch',rfl,hlo',hbh',hcy,hsy⟩:=HC j hjn;have hjh:((h j).ob.hn:Int)<=140737488355328:=by have:=(HF j hjn).h;omega
    have i9:=Ah hsy;clear hsy;have hjz:(j:Int)<n:=Za;go_wp2_with fail;refine(BU (x k) ah ch _).mono ?_;rintro e w1 ⟨rfl,hb1⟩;have hown1:=Ah (BC (NP.alloc _) hb1 Zd);have hB1:Below (w.1.size+1) (w.alloc (.cells #[.i now,.i floor,.l (some ⟨b,off,none⟩) m c1,.l (some ⟨b',off',none⟩) n c2,.l a3 n3 c3] 27)) w1:=(hb.alloc hsz (.cells (vO (x k) ah ch) 38)).trans (hb1.mono Zd);have hz1:wr.1.size<w1.1.size:=by have:=hb1.size;simp at this;omega
    have p0:=Ar hb1 0;have p1:=Ar hb1 1;have p2:=Ar hb1 2;have p3:=Ar hb1 3;have p4:=Ar hb1 4;have p5:=Ar hb1 5;have p6:=Ar hb1 6;simp only[Af,Ae,Ad]at p0 p1 p2 p3 p4 p5 p6;have o1:=Ar Yz 1;have o3:=Ar Yz 3;simp only[Af,Ae,Ad]at o1 o3;clear hb1 d0 d1 d2 d3 d4 d5 d6 NP;go_wp2_with (at_lookup;go_must(refine wpList_lookup_own_ok_int _ rfl _ _ 80 rfl 82 3 .i64 Cx underlying80 underlying3 (Nm _) (w.1.size+1) n D rfl hown1 _ _ rfl hky ?_;intro c hat hwc;have hci:c=(j:Int):=OV (hat.symm.trans Vx);subst hci;clear hat hwc));have hBw1:Below w.1.size w w1:=(Am _ _).trans (hB1.mono Za);obtain⟨f0,f1,f2,f3,f4,f5,f6,f7,f8⟩:=hcy.below hBw1 Za;have hhw:hi<=w1.1.size:=Za;have y2:=Ai f2 Zw;have y3:=Ai f3 Zw;have y4:=Ai f4 Zw;have y5:=Ai f5 Zw;have y6:=Ai f6 Zw;have y7:=Ai f7 Zw;have y8:=Ai f8 Zw;have x0:=Ai p0 hz1;have x1:=Ai p1 hz1;have x2:=Ai p2 hz1;have x3:=Ai p3 hz1;have x4:=Ai p4 hz1;have x5:=Ai p5 hz1;have x6:=Ai p6 hz1;have z3:=Ai o3 Zg;have hhu:∀u:GW w1,hi<=u.val.1.size:=λu=>AT hhw u.prop.size;have hu1:∀u:GW w1,AB u.val lo hi ah (x k).hn (x k).hs:=λu=>HS.below (hBw1.trans (u.prop.mono Za)) hhi;have hu2:∀u:GW w1,AB u.val lo hi ah' (h j).ob.hn (h j).ob.hs:=λu=>i9.below (hBw1.trans (u.prop.mono Za)) hhi;cases hg:(h j).gone with
    |true=>have HE:=Ah (show Qs floor m x n h=false by unfold Qs;rw[AX hkn (HL.trans (by rw[hg];rfl))];rfl);rw[hg]at f1;have y1:=Ai f1 Zw;clear hg f0 f1 f2 f3 f4 f5 f6 f7 f8 hcy;exact ZR
    |false=>rw[hg]at f1;have y1:=Ai f1 Zw;have MV:=Ah (show agO floor x n h k=BR (x k) (h j).ob by rw[HL.out,hg];rfl);clear hg f0 f1 f2 f3 f4 f5 f6 f7 f8 hcy;cases hsm:BR (x k) (h j).ob with
     |false=>have HE:=Ah (show Qs floor m x n h=false by unfold Qs;rw[AX hkn (MV.trans hsm)];rfl);exact ZR
     |true=>
      have HN:=Ah (MV.trans hsm);have hne:Nonempty (GW w1):=⟨⟨_,Ao _ _⟩⟩;refine AE Ze Ze ?_;repeat(go_big_quiet_step((go_at_call 54;go_must(exact Bf (RH (x k) (h j).ob ah ah' ch ch' _ lo hi (hhu _) hxh hjh (hu1 _) (hu2 _))))))
      refine wpQuiet_nil ?_;rintro w2 ⟨u,hu⟩;have hw2:Below w1.1.size w1 w2:=hu▸u.prop;clear hu u hne;have hB2:=hB1.trans (hw2.mono Za);have hown2:=Ah (BC hown1 hw2 hown1.lt);clear hown1 hhu hu1 hu2 z3 x0 x1 x2 x3 x4 x5 x6 y1 y2 y3 y4 y5 y6 y7 y8 p0 p1 p2 p3 p4 p5 p6 o1 o3;exact cL
  .have:m=k:=Za;subst this;have HO:=Ah (show Bc (agO floor x n h) m=true from AP.2 hall);have o2:=Ar Zq 2;have o3:=Ar Zq 3;simp only[Af,Ae,Ad]at o2 o3;have HD:=Ah hown;clear hall hown;go_wp2_with fail;refine(Wo m x a1 c1 wr lo hi Za hm hx (hco.below hBw hhi)).mono ?_;rintro e wp ⟨E,rfl,hownE,htoldE,hbp⟩;have xI:=Ah hownE;have xT:=Ah htoldE;have q3:=(hbp.cell (p:=⟨w.1.size,3,none⟩) Zg).trans o3;clear hownE htoldE o2 o3 hx hco;obtain⟨W,hW⟩:∃W,W=wr:=⟨wr,rfl⟩;subst hW;go_wp2;go_loopw[66](λi wq=>∃k:Nat,k<=n/\i=.i k/\Below W.1.size W wq/\wq.ownsMap prog 82 (plainElem prog 3) W.1.size m E/\∀j,j<k->agH m x n h j=true)(λi _=>n-(intOf i).toNat);case atStart=>exact⟨0,At _,rfl,hbp,xI,λj hj=>absurd hj (Aj _)⟩
   case round=>
    obtain⟨k,hk2,rfl,hb2,hownE,hall⟩:=hrel;have hBq:Below w.1.size w wr:=hBw.trans (hb2.mono hBw.size);have hltE:=hownE.lt;clear q3 xI hbp;by_cases hkn2:k<n
    .obtain⟨b,off,ah,ch,rfl,hlo,hbh,hcx,hsx⟩:=hc k hkn2;have hfk:=hf k hkn2;have hsk:(h k).ob.kind.size<=maxLen:=by unfold maxLen;have:=hfk.k;omega
     have hsn:(h k).ob.name.size<=maxLen:=by unfold maxLen;have:=hfk.n;omega
     obtain⟨d0,d1,d2,d3,d4,d5,d6,d7,d8⟩:=hcx.below hBq Za;have hky:=N8 (h k).ob.kind (h k).ob.name hsk hsn;obtain⟨i',hli⟩:=Ut (h:=h) hkn2;have SB:=Ah hli;have hin:=(Mn hli).1;have Vx:=Ah ((vF _ _ hsk hsn).1 i' hli).2;have HA:=Ah hall;have xE:=Ah hownE;clear hli hc hf hcx hsx hall hownE hb;go_wp2_with fail;refine(BU (h k).ob ah ch _).mono ?_;rintro e w1 ⟨rfl,hb1⟩;have hE1:=Ah (BC (xE.alloc _) hb1 Zd);have hB1:Below W.1.size W w1:=(hb2.alloc Za _).trans (hb1.mono Zd);have hz1:wr.1.size<w1.1.size:=by have:=hb1.size;simp at this;omega
     have p0:=Ar hb1 0;have p1:=Ar hb1 1;have p2:=Ar hb1 2;have p3:=Ar hb1 3;have p4:=Ar hb1 4;have p5:=Ar hb1 5;have p6:=Ar hb1 6;have p7:=Ar hb1 7;have p8:=Ar hb1 8;simp only[Af,Ae,Ad]at p0 p1 p2 p3 p4 p5 p6 p7 p8;clear hb1 d0 d1 d2 d3 d4 d5 d6 d7 d8 xE;cases hfn:Nq x (h k).ob.kind (h k).ob.name m with
     |none=>
      have hhas:=(xT _ _ hsk hsn).2 hfn;have wA:=Ah hfn;clear hfn;go_wp2_with (at_lookup;go_must(refine wpList_lookup_own_ok_int _ rfl _ _ 80 rfl 82 3 .i64 Cx underlying80 underlying3 (Nm _) W.1.size m E rfl hE1 _ _ rfl hky ?_;intro c hat hwc;clear hat hwc));refine(BU (h k).ob ah ch _).mono ?_;rintro e w2 ⟨rfl,hb22⟩;have hB2:Below W.1.size W w2:=hB1.trans (hb22.mono Za);have hE2:=Ah (BC hE1 hb22 Za);have hD2:=Ah (BC HD hB2 Za);have r1:=(hb22.cell (p:=⟨wr.1.size,1,none⟩) hz1).trans p1;clear hb22 p0 p1 p2 p3 p4 p5 p6 p7 p8 hE1;by_cases hii:i'=k;case neg=>exact dP
      subst hii;cases hg:(h i').gone with
      |true=>have HN:=Ah (show agH m x n h i'=true by unfold agH;rw[SB.out,hg];simp);exact Wx
      |false=>have HE:=Ah (show Qs floor m x n h=false by unfold Qs;rw[AX hkn2 (show agH m x n h i'=false by unfold agH;rw[SB.out,hg,wA.out];simp)];simp);rw[hg]at r1;clear hg;go_wp2_with (at_lookup;go_must(refine wpList_lookup_own_int _ rfl _ _ 80 rfl 82 3 .i64 Cx underlying80 underlying3 (Nm _) (w.1.size+1) n D rfl hD2 _ _ rfl hky ?_;intro c2 hat hwc;have hci:c2=(i':Int):=OV (hat.symm.trans Vx);subst hci;clear hat hwc));go_ret;exact⟨Ay HE.symm,hBw.trans (hB2.mono hBw.size)⟩
     |some g=>
      have hhas:=((xT _ _ hsk hsn).1 g hfn).1;have wA:=Ah hfn;clear hfn;go_wp2_with (at_lookup;go_must(refine wpList_lookup_own_ok_int _ rfl _ _ 80 rfl 82 3 .i64 Cx underlying80 underlying3 (Nm _) W.1.size m E rfl hE1 _ _ rfl hky ?_;intro c hat hwc;clear hat hwc));refine(BU (h k).ob ah ch _).mono ?_;rintro e w2 ⟨rfl,hb22⟩;have hB2:Below W.1.size W w2:=hB1.trans (hb22.mono Za);have hE2:=Ah (BC hE1 hb22 Za);have hD2:=Ah (BC HD hB2 Za);have r1:=(hb22.cell (p:=⟨wr.1.size,1,none⟩) hz1).trans p1;clear hb22 p0 p1 p2 p3 p4 p5 p6 p7 p8 hE1;by_cases hii:i'=k;case neg=>exact dP
      subst hii;cases hg:(h i').gone with
      |true=>have HN:=Ah (show agH m x n h i'=true by unfold agH;rw[SB.out,hg];simp);exact Wx
      |false=>have HN:=Ah (show agH m x n h i'=true by unfold agH;rw[SB.out,hg,wA.out];simp);exact Wx
    .have HE:=Ah (show Qs floor m x n h=true by unfold Qs;rw[HO.out,AP.2 (λi hi=>hall i Za)];rfl);clear hc hf hall hownE;go_wp2;go_ret;exact⟨Ay HE.symm,hBq⟩
end Go.Proofs.Ytnnjcenacidceaa
namespace Go.Proofs.Ytnnjcenacidceaa
open Go.RowKit Go.Maps Go.Proofs.Try
def LU (B:Bk):Nat->Bool
 |0=>M3 B.now B.floor
 |1=>E6 B.on B.os B.now
 |2=>EX B.on B.os
 |3=>KI B.now B.floor B.hn B.hs
 |4=>Bc (LO B.floor B.hs) B.hn
 |5=>Qs B.floor B.on B.os B.hn B.hs
 |_=>Ly B.tn B.ts B.now
theorem O3{now floor:Int}(h:M3 now floor=true):0<=floor/\floor<=now/\now<=1000000:=by unfold M3 EG at h;simp at h;omega
theorem Oq{P:Prop}(h:P:=by go_ret;exact⟨Ay HE.symm,hBw.trans (hb2.mono Za)⟩):P:=h
theorem LM (B:Bk)(a1 a2 a3:OA)(c1 c2 c3:Nat)(w:World)(lo hi:Nat)(hhi:hi<=w.1.size)(hfit:BL B)(hin:BF w lo hi B a1 a2 a3):Calls prog 13 #[.agg (vB B a1 a2 a3 c1 c2 c3)] w λe w'=>e=.returned (.bool (Bc (LU B) 7))/\Below w.1.size w w':=by
 obtain⟨f1,f2,f3,f4,f5,f6⟩:=hfit;go_enter func13,ntmps13;go_wp2_with fail;go_loopw[9](λi wr=>∃k:Nat,k<=7/\i=.i k/\Below (w.1.size+1+1) ((w.alloc (.cells (vB B a1 a2 a3 c1 c2 c3) 27)).alloc (.cells #[.func (.func 25) #[] #[],.func (.func 26) #[] #[],.func (.func 27) #[] #[],.func (.func 28) #[] #[],.func (.func 29) #[] #[],.func (.func 30) #[] #[],.func (.func 31) #[] #[]] 49)) wr/\∀j,j<k->LU B j=true)(λi _=>7-(intOf i).toNat);case atStart=>exact⟨0,At _,rfl,Ao _ _,λj hj=>absurd hj (Aj _)⟩
 case round=>
  obtain⟨k,hk,rfl,hb,hall⟩:=hrel;have hBw:Below w.1.size w wr:=((Am _ _).alloc Zc _).trans (hb.mono Za);have hsz:w.1.size+2<=wr.1.size:=by have:=hb.size;simpa using this
  have hhw:hi<=wr.1.size:=Za;have HI:=Ah (show BF wr lo hi B a1 a2 a3 from⟨hin.o.below hBw hhi,hin.h.below hBw hhi,hin.t.below hBw hhi⟩);have HA:=Ah hall;have e0:wr.cell? ⟨w.1.size,0,none⟩=some (.i B.now):=(hb.cell (p:=⟨w.1.size,0,none⟩) Zg).trans Zc;have e1:wr.cell? ⟨w.1.size,1,none⟩=some (.i B.floor):=(hb.cell (p:=⟨w.1.size,1,none⟩) Zg).trans Zc;have e2:wr.cell? ⟨w.1.size,2,none⟩=some (.slice a1 B.on c1):=(hb.cell (p:=⟨w.1.size,2,none⟩) Zg).trans Zc;have e3:wr.cell? ⟨w.1.size,3,none⟩=some (.slice a2 B.hn c2):=(hb.cell (p:=⟨w.1.size,3,none⟩) Zg).trans Zc;have e4:wr.cell? ⟨w.1.size,4,none⟩=some (.slice a3 B.tn c3):=(hb.cell (p:=⟨w.1.size,4,none⟩) Zg).trans Zc;clear hin;rcases(show k=0\/k=1\/k=2\/k=3\/k=4\/k=5\/k=6\/k=7 by omega)with rfl|rfl|rfl|rfl|rfl|rfl|rfl|rfl;all_goals clear hall
  iterate 1
   .have g:wr.cell? ⟨w.1.size+1,0,none⟩=some (.func (.func 25) #[] #[]):=(hb.cell (p:=⟨w.1.size+1,0,none⟩) Zo).trans Zc;cases hp:LU B 0 with
    |false=>have HE:=Ah (show Bc (LU B) 7=false from AX (show 0<7 by omega) hp);have hp':M3 B.now B.floor=false:=hp;go_wp2_with (go_at_call 25;refine(P8 B.now B.floor a1 a2 a3 B.on c1 B.hn c2 B.tn c3 wr).mono ?_;rintro e w2 ⟨rfl,hb2⟩;rw[hp']);exact Oq
    |true=>
     have HP:=Ah hp;have hp':M3 B.now B.floor=true:=hp;go_wp2_with (go_at_call 25;refine(P8 B.now B.floor a1 a2 a3 B.on c1 B.hn c2 B.tn c3 wr).mono ?_;rintro e w2 ⟨rfl,hb2⟩;rw[hp']);go_roundw;case rel=>exact⟨1,Za,by go_num,hb.trans (hb2.mono Za),λj hj=>(by
      rcases Au j 0 with h3|h3;.exact HA j h3
      .have:j=0:=Za;subst this;exact HP)⟩
     case measure=>simp[intOf]
   .have g:wr.cell? ⟨w.1.size+1,1,none⟩=some (.func (.func 26) #[] #[]):=(hb.cell (p:=⟨w.1.size+1,1,none⟩) Zo).trans Zc;cases hp:LU B 1 with
    |false=>have HE:=Ah (show Bc (LU B) 7=false from AX (show 1<7 by omega) hp);have hp':E6 B.on B.os B.now=false:=hp;go_wp2_with (go_at_call 26;refine(PT B.now B.floor B.on B.os a1 a2 a3 c1 B.hn c2 B.tn c3 wr lo hi hhw f1 f4 HI.o).mono ?_;rintro e w2 ⟨rfl,hb2⟩;rw[hp']);exact Oq
    |true=>
     have HP:=Ah hp;have hp':E6 B.on B.os B.now=true:=hp;go_wp2_with (go_at_call 26;refine(PT B.now B.floor B.on B.os a1 a2 a3 c1 B.hn c2 B.tn c3 wr lo hi hhw f1 f4 HI.o).mono ?_;rintro e w2 ⟨rfl,hb2⟩;rw[hp']);go_roundw;case rel=>exact⟨2,Za,by go_num,hb.trans (hb2.mono Za),λj hj=>(by
      rcases Au j 1 with h3|h3;.exact HA j h3
      .have:j=1:=Za;subst this;exact HP)⟩
     case measure=>simp[intOf]
   .have g:wr.cell? ⟨w.1.size+1,2,none⟩=some (.func (.func 27) #[] #[]):=(hb.cell (p:=⟨w.1.size+1,2,none⟩) Zo).trans Zc;cases hp:LU B 2 with
    |false=>have HE:=Ah (show Bc (LU B) 7=false from AX (show 2<7 by omega) hp);have hp':EX B.on B.os=false:=hp;go_wp2_with (go_at_call 27;refine(PW B.now B.floor B.on B.os a1 a2 a3 c1 B.hn c2 B.tn c3 wr lo hi hhw f1 f4 HI.o).mono ?_;rintro e w2 ⟨rfl,hb2⟩;rw[hp']);exact Oq
    |true=>
     have HP:=Ah hp;have hp':EX B.on B.os=true:=hp;go_wp2_with (go_at_call 27;refine(PW B.now B.floor B.on B.os a1 a2 a3 c1 B.hn c2 B.tn c3 wr lo hi hhw f1 f4 HI.o).mono ?_;rintro e w2 ⟨rfl,hb2⟩;rw[hp']);go_roundw;case rel=>exact⟨3,Za,by go_num,hb.trans (hb2.mono Za),λj hj=>(by
      rcases Au j 2 with h3|h3;.exact HA j h3
      .have:j=2:=Za;subst this;exact HP)⟩
     case measure=>simp[intOf]
   .have g:wr.cell? ⟨w.1.size+1,3,none⟩=some (.func (.func 28) #[] #[]):=(hb.cell (p:=⟨w.1.size+1,3,none⟩) Zo).trans Zc;have hnn:=HA.out 0 Za;obtain⟨hn1,hn2,hn3⟩:=O3 hnn;clear hnn;cases hp:LU B 3 with
    |false=>have HE:=Ah (show Bc (LU B) 7=false from AX (show 3<7 by omega) hp);have hp':KI B.now B.floor B.hn B.hs=false:=hp;go_wp2_with (go_at_call 28;refine(OI B.now B.floor B.hn B.hs a1 a2 a3 B.on c1 c2 B.tn c3 wr lo hi hhw f2 hn1 hn2 hn3 f5 HI.h).mono ?_;rintro e w2 ⟨rfl,hb2⟩;rw[hp']);exact Oq
    |true=>
     have HP:=Ah hp;have hp':KI B.now B.floor B.hn B.hs=true:=hp;go_wp2_with (go_at_call 28;refine(OI B.now B.floor B.hn B.hs a1 a2 a3 B.on c1 c2 B.tn c3 wr lo hi hhw f2 hn1 hn2 hn3 f5 HI.h).mono ?_;rintro e w2 ⟨rfl,hb2⟩;rw[hp']);go_roundw;case rel=>exact⟨4,Za,by go_num,hb.trans (hb2.mono Za),λj hj=>(by
      rcases Au j 3 with h3|h3;.exact HA j h3
      .have:j=3:=Za;subst this;exact HP)⟩
     case measure=>simp[intOf]
   .have g:wr.cell? ⟨w.1.size+1,4,none⟩=some (.func (.func 29) #[] #[]):=(hb.cell (p:=⟨w.1.size+1,4,none⟩) Zo).trans Zc;cases hp:LU B 4 with
    |false=>have HE:=Ah (show Bc (LU B) 7=false from AX (show 4<7 by omega) hp);have hp':Bc (LO B.floor B.hs) B.hn=false:=hp;go_wp2_with (go_at_call 29;refine(OX B.now B.floor B.hn B.hs a1 a2 a3 B.on c1 c2 B.tn c3 wr lo hi hhw f2 f5 HI.h).mono ?_;rintro e w2 ⟨rfl,hb2⟩;rw[hp']);exact Oq
    |true=>
     have HP:=Ah hp;have hp':Bc (LO B.floor B.hs) B.hn=true:=hp;go_wp2_with (go_at_call 29;refine(OX B.now B.floor B.hn B.hs a1 a2 a3 B.on c1 c2 B.tn c3 wr lo hi hhw f2 f5 HI.h).mono ?_;rintro e w2 ⟨rfl,hb2⟩;rw[hp']);go_roundw;case rel=>exact⟨5,Za,by go_num,hb.trans (hb2.mono Za),λj hj=>(by
      rcases Au j 4 with h3|h3;.exact HA j h3
      .have:j=4:=Za;subst this;exact HP)⟩
     case measure=>simp[intOf]
   .have g:wr.cell? ⟨w.1.size+1,5,none⟩=some (.func (.func 30) #[] #[]):=(hb.cell (p:=⟨w.1.size+1,5,none⟩) Zo).trans Zc;cases hp:LU B 5 with
    |false=>have HE:=Ah (show Bc (LU B) 7=false from AX (show 5<7 by omega) hp);have hp':Qs B.floor B.on B.os B.hn B.hs=false:=hp;go_wp2_with (go_at_call 30;refine(SX B.now B.floor B.on B.hn B.os B.hs a1 a2 a3 c1 c2 B.tn c3 wr lo hi hhw f1 f2 f4 f5 HI.o HI.h).mono ?_;rintro e w2 ⟨rfl,hb2⟩;rw[hp']);exact Oq
    |true=>
     have HP:=Ah hp;have hp':Qs B.floor B.on B.os B.hn B.hs=true:=hp;go_wp2_with (go_at_call 30;refine(SX B.now B.floor B.on B.hn B.os B.hs a1 a2 a3 c1 c2 B.tn c3 wr lo hi hhw f1 f2 f4 f5 HI.o HI.h).mono ?_;rintro e w2 ⟨rfl,hb2⟩;rw[hp']);go_roundw;case rel=>exact⟨6,Za,by go_num,hb.trans (hb2.mono Za),λj hj=>(by
      rcases Au j 5 with h3|h3;.exact HA j h3
      .have:j=5:=Za;subst this;exact HP)⟩
     case measure=>simp[intOf]
   .have g:wr.cell? ⟨w.1.size+1,6,none⟩=some (.func (.func 31) #[] #[]):=(hb.cell (p:=⟨w.1.size+1,6,none⟩) Zo).trans Zc;cases hp:LU B 6 with
    |false=>have HE:=Ah (show Bc (LU B) 7=false from AX (show 6<7 by omega) hp);have hp':Ly B.tn B.ts B.now=false:=hp;go_wp2_with (go_at_call 31;refine(PY B.now B.floor B.tn B.ts a1 a2 a3 B.on c1 B.hn c2 c3 wr lo hi hhw f3 f6 HI.t).mono ?_;rintro e w2 ⟨rfl,hb2⟩;rw[hp']);exact Oq
    |true=>
     have HP:=Ah hp;have hp':Ly B.tn B.ts B.now=true:=hp;go_wp2_with (go_at_call 31;refine(PY B.now B.floor B.tn B.ts a1 a2 a3 B.on c1 B.hn c2 c3 wr lo hi hhw f3 f6 HI.t).mono ?_;rintro e w2 ⟨rfl,hb2⟩;rw[hp']);go_roundw;case rel=>exact⟨7,Za,by go_num,hb.trans (hb2.mono Za),λj hj=>(by
      rcases Au j 6 with h3|h3;.exact HA j h3
      .have:j=6:=Za;subst this;exact HP)⟩
     case measure=>simp[intOf]
   .have HE:=Ah (show Bc (LU B) 7=true from AP.2 HA);go_wp2;go_ret;exact⟨Ay HE.symm,hBw⟩
end Go.Proofs.Ytnnjcenacidceaa
namespace Go.Proofs.Ytnnjcenacidceaa
open Go.RowKit Go.Proofs.Try
/-! what a write comes to -/
theorem UW:∀a b:List UInt8,Op.bytesLess a b=false->¬a=b->Op.bytesLess b a=true
 |[],[],_,h=>absurd rfl h
 |[],_::_,h,_=>by simp[Op.bytesLess]at h
 |_::_,[],_,_=>rfl
 |x::a,y::b,h,hn=>by
  simp only[Op.bytesLess]at h⊢;by_cases e:x=y;.subst e;simp at h⊢;exact UW a b h (λe=>hn (by rw[e]))
  .simp[e]at h;have e2:¬y=x:=λq=>e q.symm;simp[e2];have h1:¬x.toNat<y.toNat:=by intro hh;exact absurd (UInt8.lt_iff_toNat_lt.2 hh) (by simpa using h)
   have h2:¬x.toNat=y.toNat:=λq=>e (UInt8.toNat_inj.1 q);exact UInt8.lt_iff_toNat_lt.2 Za
theorem QB{a b:ByteArray}(h:KW a b=false)(hn:¬a=b):KW b a=true:=UW _ _ h (λe=>hn (Ld e))
theorem Ra{x y z:Ob}(h1:Fd x y=true)(h2:Fd y z=true):Fd x z=true:=by
 unfold Fd at h1 h2⊢;by_cases e1:x.kind.toList=y.kind.toList
 .by_cases e2:y.kind.toList=z.kind.toList
  .rw[if_pos e1]at h1;rw[if_pos e2]at h2;rw[if_pos (e1.trans e2)];exact M7 h1 h2
  .rw[if_neg e2]at h2;rw[if_neg (λe=>e2 (e1.symm.trans e))];unfold KW at h2⊢;rw[e1];exact h2
 .rw[if_neg e1]at h1;by_cases e2:y.kind.toList=z.kind.toList;.rw[if_neg (λe=>e1 (e.trans e2.symm))];unfold KW at h1⊢;rw[<-e2];exact h1
  .rw[if_neg e2]at h2;have h3:=M7 h1 h2;by_cases e3:x.kind.toList=z.kind.toList;.rw[LL e3]at h3;cases h3
   .rw[if_neg e3];exact h3
def Vm (n:Nat)(x:Nat->Ob):Prop:=∀i j,i<j->j<n->Fd (x i) (x j)=true
def MC (n:Nat)(s:Nat->ByteArray):Prop:=∀i j,i<j->j<n->KW (s i) (s j)=true
theorem cU{n:Nat}{x:Nat->Ob}(h:K8 n x=true):Vm n x:=by unfold K8 at h;rw[AP]at h;intro i j;induction j with
 |zero=>intro h1;omega
 |succ j ih=>
  intro h1 h2;have hj:=h (j+1) h2;simp at hj;rcases Au i j with h3|h3;.exact Ra (ih h3 Za) hj
  .obtain rfl:i=j:=Za;exact hj
theorem dI{n:Nat}{s:Nat->ByteArray}(h:Sw n s=true):MC n s:=by rw[Nd,Al]at h;have h:=h.1;unfold Ys at h;rw[AP]at h;intro i j;induction j with
 |zero=>intro h1;omega
 |succ j ih=>
  intro h1 h2;have hj:=h (j+1) h2;simp at hj;rcases Au i j with h3|h3;.exact M7 (ih h3 Za) hj
  .obtain rfl:i=j:=Za;exact hj
def K1 (s:Nat->ByteArray)(a:ByteArray):Nat->Nat
 |0=>0
 |n+1=>if K1 s a n=n/\KW (s n) a=true then n+1 else K1 s a n
theorem MK (s:Nat->ByteArray)(a:ByteArray):∀n,K1 s a n<=n/\(∀j,j<K1 s a n->KW (s j) a=true)/\(K1 s a n<n->KW (s (K1 s a n)) a=false)
 |0=>⟨AD _,λj hj=>absurd hj (Aj _),λh=>absurd h (Aj _)⟩
 |n+1=>by
  obtain⟨h1,h2,h3⟩:=MK s a n;unfold K1;by_cases e:K1 s a n=n/\KW (s n) a=true
  .rw[if_pos e];refine⟨AD _,λj hj=>?_,λh=>absurd h (AY _)⟩;rcases Au j n with h|h;.exact h2 j Za
   .obtain rfl:j=n:=Za;exact e.2
  .rw[if_neg e];refine⟨Za,h2,λ_=>?_⟩;rcases Au (K1 s a n) n with h|h;.exact h3 h
   .have e1:K1 s a n=n:=Za;rw[e1];cases hx:KW (s n) a with
    |false=>rfl
    |true=>exact absurd ⟨e1,hx⟩ e
theorem VQ{s:Nat->ByteArray}{a:ByteArray}{n i:Nat}(hi:i<=n)(h1:∀j,j<i->KW (s j) a=true)(h2:i<n->KW (s i) a=false):K1 s a n=i:=by
 obtain⟨g1,g2,g3⟩:=MK s a n;rcases Lr (K1 s a n) i with h|h|h;.have e1:=h1 _ h;rw[g3 Za]at e1;cases e1
 .exact h
 .have e1:=g2 _ h;rw[h2 Za]at e1;cases e1
def Qt (s:Nat->ByteArray)(k:Nat)(a:ByteArray):Nat->ByteArray:=λj=>if j<k then s j else if j=k then a else s (j-1)
def Nc (s:Nat->ByteArray)(k:Nat):Nat->ByteArray:=λj=>if j<k then s j else s (j+1)
theorem qC{n:Nat}{s:Nat->ByteArray}{a:ByteArray}(h:MC n s):M4 n s a=(decide (K1 s a n<n)&&decide (s (K1 s a n)=a)):=by
 obtain⟨g1,g2,g3⟩:=MK s a n;by_cases e:K1 s a n<n/\s (K1 s a n)=a
 .rw[RT e.1 e.2];simp[e.1,e.2]
 .rw[Xn (λi hi q=>e ?_)]
  .symm;rw[Bool.and_eq_false_iff];by_cases e1:K1 s a n<n;.exact AC (by simpa using λq=>e ⟨e1,q⟩)
   .exact AA (by simpa using e1)
  .have hr:K1 s a n=i:=by
    refine VQ (Nat.le_of_lt hi) (λj hj=>?_) (λ_=>?_);.rw[<-q];exact h j i hj hi
    .rw[q];exact LL rfl
   rw[hr];exact⟨hi,q⟩
def BV (B:Bk)(v:Wr):Ob:=BN B.os v.kind v.name B.on
def D9 (B:Bk)(v:Wr):Int:=if Ce B.os v.kind v.name B.on=decide (v.op=1)then 3 else if¬v.seen=0/\¬v.seen=(BV B v).ver then 4 else if(BV B v).ending=true/\¬v.op=5 then 5 else if v.op=1 then(if 100<=B.on then 7 else 0)else if v.op=4 then(if M4 (BV B v).hn (BV B v).hs v.hold=true then 6 else if 5<=(BV B v).hn then 7 else 0)else if v.op=5 then(if M4 (BV B v).hn (BV B v).hs v.hold=true then 0 else 6)else 0
def BJ (B:Bk)(v:Wr):Int:=if D9 B v=0 then(if 1000000<=B.now then 8 else 0)else D9 B v
def Ve (B:Bk)(v:Wr):Int:=if D9 B v=4 then(BV B v).ver else 0
def MY (B:Bk)(v:Wr)(ve:Int):Ob:=if v.op=1 then⟨v.kind,v.name,ve,B.now+1,v.text,false,if PE v.hold then 0 else 1,λ_=>v.hold⟩else if v.op=2 then⟨(BV B v).kind,(BV B v).name,ve,(BV B v).born,v.text,(BV B v).ending,(BV B v).hn,(BV B v).hs⟩else if v.op=3 then⟨(BV B v).kind,(BV B v).name,ve,(BV B v).born,(BV B v).text,true,(BV B v).hn,(BV B v).hs⟩else if v.op=4 then⟨(BV B v).kind,(BV B v).name,ve,(BV B v).born,(BV B v).text,(BV B v).ending,(BV B v).hn+1,Qt (BV B v).hs (K1 (BV B v).hs v.hold (BV B v).hn) v.hold⟩else⟨(BV B v).kind,(BV B v).name,ve,(BV B v).born,(BV B v).text,(BV B v).ending,(BV B v).hn-1,Nc (BV B v).hs (K1 (BV B v).hs v.hold (BV B v).hn)⟩
def Cr (B:Bk)(v:Wr):Ob:=MY B v (B.now+1)
def CX (B:Bk)(v:Wr):Bool:=!CW (Cr B v)
def Ec (B:Bk)(v:Wr):Ch:=⟨B.now+1,CX B v,Cr B v⟩
def Mk (B:Bk):Nat:=if B.hn=200 then 1 else 0
def sN (B:Bk)(c:Ch):Nat->Ch:=λi=>if i<B.hn-Mk B then B.hs (i+Mk B)else c
def LX (B:Bk)(v:Wr):Bk:={now:=B.now+1,floor:=if B.hn=200 then(B.hs 0).ver else B.floor,on:=(KM B.on B.os (Cr B v) (CX B v)).m,os:=(KM B.on B.os (Cr B v) (CX B v)).y,hn:=B.hn-Mk B+1,hs:=sN B (Ec B v),tn:=B.tn,ts:=B.ts}
structure Nv (B:Bk)(v:Wr):Prop where
 fit:BL B
 now0:0<=B.now
 now1:B.now<=1000000
 on:B.on<=100
 hn:B.hn<=200
 asc:Vm B.on B.os
 hold:∀i,i<B.on->(B.os i).hn<=5/\MC (B.os i).hn (B.os i).hs
 wr:Li v=true
 wf:RU v
theorem VU{B:Bk}{v:Wr}(hf:BL B)(hv:Bc (LU B) 7=true)(hw:Li v=true)(wf:RU v):Nv B v:=by rw[AP]at hv;have c0:M3 B.now B.floor=true:=hv 0 Za;have c1:E6 B.on B.os B.now=true:=hv 1 Za;have c3:KI B.now B.floor B.hn B.hs=true:=hv 3 Za;unfold M3 at c0;unfold E6 at c1;unfold KI at c3;rw[Al]at c0 c1 c3;rw[Al]at c1;have n0:=MJ c0.1;refine⟨hf,n0.1,n0.2,of_decide_eq_true c1.1,of_decide_eq_true c3.1,cU c1.2.1,λi hi=>?_,hw,wf⟩;have h:=AP.1 c1.2.2 i hi;rw[Al]at h;have h:=h.1;unfold Bg at h;simp only[Al]at h;have h:=h.2.2.2.2.2;unfold EB at h;rw[Al]at h;exact⟨of_decide_eq_true h.1,dI h.2⟩
end Go.Proofs.Ytnnjcenacidceaa
namespace Go.Proofs.Ytnnjcenacidceaa
open Go.RowKit Go.Proofs.Try
end Go.Proofs.Ytnnjcenacidceaa
namespace Go.Proofs.Ytnnjcenacidceaa
open Go.RowKit Go.Proofs.Try
theorem UV{ops:Array Oper}{l:Array Bool}(hord:((List.range ops.size).all λi=>match ops[i]? with|some o=>o.after.all (λe=>!(Region.binds .any e)||decide (e.on<i))|none=>true)=true)(hs:l.size=ops.size)(hr:Region.ready .any ops l=[]):∀i,i<ops.size->l.getD i false=true:=by
 have conv:∀i,i<ops.size->l.getD i true=l.getD i false:=λi hi=>by simp[Array.getD,hs,hi]
 intro i;induction i using Nat.strongRecOn with
 |_ i ih=>intro hi;cases hg:l.getD i false with
  |true=>rfl
  |false=>
   have hm:i∈Region.ready .any ops l:=by
    rw[mem_ready];refine⟨(conv i hi).trans hg,ops[i],by simp[hi],λe he hbd=>?_⟩;have h1:=AZ.1 hord i (by simpa using hi);simp only[Kz hi]at h1;have h2:=(AU.1 h1) e he;rw[hbd]at h2;have h3:e.on<i:=by simpa using h2
    exact ih e.on h3 Za
   rw[hr]at hm;cases hm
theorem UU{P:Program}{id:Nat}{ops:Array Oper}{Q:Exit->Act->World->Prop}{a0:Act}{W:World}(hm:P.follows .mixedOrders=true)(n:Nat)(mk:(Nat->Value)->Array Value)(t0:Nat->Value)(I:(Nat->Bool)->(Nat->Value)->World->Prop)(hn:ops.size=n)(hord:((List.range ops.size).all λi=>match ops[i]? with|some o=>o.after.all (λe=>!(Region.binds .any e)||decide (e.on<i))|none=>true)=true)(h0:a0=⟨mk t0,[]⟩)(hI:∀f:Nat->Bool,(∀i,f i=false)->I f t0 W.drew)(sg:∀i,i<n->∀(f:Nat->Bool)(t:Nat->Value) X K,I f t X->f i=false->(∀j,BE ops i j->f j=true)->(∀p j,BE ops p j->f p=true->f j=true)->(∀v Y,(∀g:Nat->Bool,g i=true->(∀j,¬j=i->g j=f j)->I g (Av t i v) Y)->K ⟨mk (Av t i v),[]⟩ Y)->wpOp P ops Q i K ⟨mk t,[]⟩ X)(hfin:∀(f:Nat->Bool) t X,(∀i,i<n->f i=true)->I f t X->Q .normal ⟨mk t,[]⟩ X):(Code.region id ops true).wp P Q a0 W:=by
 refine Cs hm (λl a X=>l.size=n/\(∀p j,BE ops p j->l.getD p false=true->l.getD j false=true)/\∃t,a=⟨mk t,[]⟩/\I (λi=>l.getD i false) t X) ?_ ?_ ?_ ?_
 .have hz:∀i,(Array.replicate ops.size false).getD i false=false:=λi=>by simp[Array.getD]
  exact⟨by simp[hn],λp j _ h=>(by rw[hz]at h;cases h),t0,h0,hI _ hz⟩
 .rintro l a X ⟨hs,_⟩;rw[hs,hn]
 .rintro l a X ⟨hs,_,t,rfl,h⟩ hr;exact hfin _ t X (λi hi=>UV hord (by rw[hs,hn]) hr i Za) h
 .rintro l a X i ⟨hs,hcl,t,rfl,h⟩ hr;obtain⟨hu,o,ho,hall⟩:=mem_ready.1 hr;have di:∀j,BE ops i j->l.getD j false=true:=by
   rintro j ⟨o',ho',e,he,hb,rfl⟩;rw[ho]at ho';obtain rfl:o=o':=by simpa using ho'
   exact hall e he hb
  have hi7:i<n:=by
   rcases Au i n with h|h;.exact h
   .rw[A9 Za]at ho;cases ho
  have hui:l.getD i false=false:=by have:l.getD i true=false:=hu;simpa[Array.getD,hs,hi7]using this
  have ki:(l.setIfInBounds i true).getD i false=true:=by rw[BT Za,if_pos rfl]
  have kp:∀j,¬j=i->(l.setIfInBounds i true).getD j false=l.getD j false:=λj hj=>by rw[BT Za,if_neg hj]
  have ku:∀j,l.getD j false=true->(l.setIfInBounds i true).getD j false=true:=λj h=>by
   by_cases e:j=i;.subst e;exact ki
   .rw[kp j e];exact h
  refine sg i hi7 _ t X _ h hui di hcl (λv Y hY=>⟨by simp[hs],λp j hj h=>?_,Av t i v,rfl,hY _ ki kp⟩);by_cases e:p=i;.subst e;exact ku j (di j hj)
  .rw[kp p e]at h;exact ku j (hcl p j hj h)
theorem mX{P:Program}{id:Nat}{ops:Array Oper}{Q:Exit->Act->World->Prop}{a0:Act}{W:World}(hm:P.follows .mixedOrders=true)(n:Nat)(mk:(Nat->Value)->Array Value)(t0:Nat->Value)(I:(Nat->Bool)->(Nat->Value)->World->Prop)(hn:ops.size=n)(hord:((List.range ops.size).all λi=>match ops[i]? with|some o=>o.after.all (λe=>!(Region.binds .any e)||decide (e.on<i))|none=>true)=true)(h0:a0=⟨mk t0,[]⟩)(hI:∀f:Nat->Bool,(∀i,f i=false)->I f t0 W.drew)(sg:∀i,i<n->∀(f:Nat->Bool)(t:Nat->Value) X K,I f t X->f i=false->(∀j,BE ops i j->f j=true)->(∀v Y,(∀g:Nat->Bool,g i=true->(∀j,¬j=i->g j=f j)->I g (Av t i v) Y)->K ⟨mk (Av t i v),[]⟩ Y)->wpOp P ops Q i K ⟨mk t,[]⟩ X)(hfin:∀(f:Nat->Bool) t X,(∀i,i<n->f i=true)->I f t X->Q .normal ⟨mk t,[]⟩ X):(Code.region id ops true).wp P Q a0 W:=UU hm n mk t0 I hn hord h0 hI (λi hi f t X K h1 h2 h3 _ h5=>sg i hi f t X K h1 h2 h3 h5) hfin
end Go.Proofs.Ytnnjcenacidceaa
namespace Go.Proofs.Ytnnjcenacidceaa
open Go.RowKit Go.Maps Go.Proofs.Try
theorem QY{w w':World}{base e z n:Nat}{v:Value}{xs:List Value}(h:w.ownsRow base e z v n xs)(hb:Below w.1.size w w'):w'.ownsRow base e z v n xs:=Mi h (Aq (P:=λ_=>False) hb) (λ_ _ h=>h)
end Go.Proofs.Ytnnjcenacidceaa
namespace Go.Proofs.Ytnnjcenacidceaa
open Go.RowKit Go.Maps Go.Proofs.Try
theorem WB{w:World}{g:Nat}{c:Nat->Value}{v0 v1 v2 v3 v4 v5 v6:Value}(h:AN w g 7 c):AN (((((((w.setCell ⟨g,0,none⟩ v0).setCell ⟨g,1,none⟩ v1).setCell ⟨g,2,none⟩ v2).setCell ⟨g,3,none⟩ v3).setCell ⟨g,4,none⟩ v4).setCell ⟨g,5,none⟩ v5).setCell ⟨g,6,none⟩ v6) g 7 (AR [v0,v1,v2,v3,v4,v5,v6]):=by have H:=((((((h.set (o:=0) Za v0).set (o:=1) Za v1).set (o:=2) Za v2).set (o:=3) Za v3).set (o:=4) Za v4).set (o:=5) Za v5).set (o:=6) Za v6;refine⟨H.lt,H.free,λj hj=>(H.cell j hj).trans ?_⟩;rcases(show j=0\/j=1\/j=2\/j=3\/j=4\/j=5\/j=6 by omega)with rfl|rfl|rfl|rfl|rfl|rfl|rfl<;>rfl
end Go.Proofs.Ytnnjcenacidceaa
