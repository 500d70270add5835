import Derived.Test.YtofencldleijcaaGreatPk14
import Derived.Test.YtofencldleijcaaGreatPk15
import Derived.Test.YtofencldleijcaaGreatPk13
import Derived.Test.YtofencldleijcaaGreatPk11
import Derived.Deep.RegionWith
set_option maxRecDepth 100000
set_option maxHeartbeats 2000000
namespace Go.Proofs.YtofencldleijcaaGreat
open Go.RowKit Go.Maps Go.Proofs.Tryz
theorem NR{h:Nat->Ch}{i n:Nat}(hi:i<n):∃i',CM h (h i).ob.kind (h i).ob.name n=some i':=by induction n with
 |zero=>omega
 |succ n ih=>
  by_cases h2:(h n).ob.kind=(h i).ob.kind/\(h n).ob.name=(h i).ob.name;.exact⟨n,Fb h2⟩
  .rw[ES h2];rcases At i n with h3|h3;.exact ih h3
   .have:i=n:=Zb;subst this;exact absurd ⟨rfl,rfl⟩ h2
def agO (floor:Int)(x:Nat->Ob)(n:Nat)(h:Nat->Ch)(i:Nat):Bool:=match CM h (x i).kind (x i).name n with|none=>decide ((x i).ver<=floor)|some j=>!(h j).gone&&BT (x i) (h j).ob
def agH (m:Nat)(x:Nat->Ob)(n:Nat)(h:Nat->Ch)(i:Nat):Bool:=!decide (CM h (h i).ob.kind (h i).ob.name n=some i)||((h i).gone||(Jb x (h i).ob.kind (h i).ob.name m).isSome)
def MB (floor:Int)(m:Nat)(x:Nat->Ob)(n:Nat)(h:Nat->Ch):Bool:=Be (agO floor x n h) m&&Be (agH m x n h) n
theorem SO{P:Prop}(h:P:=by
  rw[hg]at r1;clear hg;go_wp2_with (at_lookup;go_must(refine wpList_lookup_own_int _ rfl _ _ 53 rfl 65 3 .i64 BK underlying53 underlying3 (GJ _) (w.1.size+1) n D rfl hD2 _ _ rfl hky ?_;intro c2 hat hwc;have hci:c2=(i':Int):=Le (hat.symm.trans RO);subst hci;clear hat hwc));go_roundw;case rel=>exact⟨i'+1,Zb,by go_num,hB2,hE2,λj hj=>(by
   rcases At j i' with h3|h3;.exact HA j h3
   .have:j=i':=Zb;subst this;exact HN)⟩
  case measure=>simp[intOf];omega):P:=h
theorem Wb{P:Prop}(h:P:=by
  have HN:=Ag (show agH m x n h k=true by unfold agH;rw[Oi.out];simp[hii]);have hd:((i':Int)==(k:Int))=false:=Zd;go_wp2_with (at_lookup;go_must(refine wpList_lookup_own_int _ rfl _ _ 53 rfl 65 3 .i64 BK underlying53 underlying3 (GJ _) (w.1.size+1) n D rfl hD2 _ _ rfl hky ?_;intro c2 hat hwc;have hci:c2=(i':Int):=Le (hat.symm.trans RO);subst hci;clear hat hwc));go_roundw;case rel=>exact⟨k+1,Zb,by go_num,hB2,hE2,λj hj=>(by
   rcases At j k with h3|h3;.exact HA j h3
   .have:j=k:=Zb;subst this;exact HN)⟩
  case measure=>simp[intOf];omega):P:=h
theorem Y4{P:Prop}(h:P:=by
  have hne:Nonempty (GW w1):=⟨⟨_,Al _ _⟩⟩;refine AA Ze Ze ?_;repeat(go_big_quiet_step((go_at_call 80;go_must(exact Bf (M7 (x k) (h j).ob ah ah' ch ch' _ lo hi (hhu _) hxh hjh (hu1 _) (hu2 _))))))
  refine wpQuiet_nil ?_;rintro w2 ⟨u,hu⟩;have hw2:Below w1.1.size w1 w2:=hu▸u.prop;clear hu u hne;have hB2:=hB1.trans (hw2.mono Zb);clear hown1 hhu hu1 hu2 z3 x0 x1 x2 x3 x4 x5 x6 y1 y2 y3 y4 y5 y6 y7 y8 p0 p1 p2 p3 p4 p5 p6 o1 o3;go_wp2;go_ret;exact⟨Av HE.symm,(Am _ _).trans (hB2.mono Zb)⟩):P:=h
theorem Xx{P:Prop}(h:P:=by
  go_wp2;go_roundw;case rel=>exact⟨k+1,Zb,by go_num,hB2,hown2,λj hj=>(by
   rcases At j k with h3|h3;.exact HA j h3
   .have:j=k:=Zb;subst this;exact HN)⟩
  case measure=>simp[intOf];omega):P:=h
theorem O9 (now floor:Int)(m n:Nat)(x:Nat->Ob)(h:Nat->Ch)(a1 a2 a3:OA)(c1 c2 n3 c3:Nat)(w:World)(lo hi:Nat)(hhi:hi<=w.1.size)(hm:(m:Int)<=1099511627776)(hl:(n:Int)<=1099511627776)(hx:∀i,i<m->DD (x i))(hf:∀i,i<n->DD (h i).ob)(hco:Bs w lo hi a1 m x)(hc:Dr w lo hi a2 n h):Calls prog 51 #[.agg #[.i now,.i floor,.l a1 m c1,.l a2 n c2,.l a3 n3 c3]] w λe w'=>e=.returned (.bool (MB floor m x n h))/\Below w.1.size w w':=by
 have hcA:=λo=>hc.below (Am w o) hhi;go_enter func51,ntmps51;go_wp2_with fail;refine(Ql n h a2 c2 _ lo hi Zd hl hf (hcA _)).mono ?_;rintro e w0 ⟨D,rfl,hown0,htold,hb0⟩;simp only[Au]at hown0 hb0⊢;have k2:w0.cell? ⟨w.1.size,2,none⟩=some (.slice a1 m c1):=(hb0.cell (p:=⟨w.1.size,2,none⟩) Zg).trans (Ao _ _ _ _);have jG:=Ag hown0;have nL:=Ag htold;clear hown0 htold hcA;go_wp2;go_loopw[19](λi wr=>∃k:Nat,k<=m/\i=.i k/\Below (w.1.size+1) (w.alloc (.cells #[.i now,.i floor,.l a1 m c1,.l a2 n c2,.l a3 n3 c3] 27)) wr/\wr.ownsMap prog 65 (plainElem prog 3) (w.1.size+1) n D/\∀j,j<k->agO floor x n h j=true)(λi _=>m-(intOf i).toNat);case atStart=>exact⟨0,Aw _,rfl,hb0,jG,λj hj=>absurd hj (Ai _)⟩
 case round=>
  obtain⟨k,hk,rfl,hb,hown,hall⟩:=hrel;have hBw:Below w.1.size w wr:=(Am _ _).trans (hb.mono Zb);have hsz:w.1.size+1<=wr.1.size:=by have:=hb.size;simpa using this
  have hlt:=hown.lt;clear k2 jG hb0;by_cases hkn:k<m
  .obtain⟨b,off,ah,ch,rfl,hlo,hbh,hcx,hsx⟩:=hco k hkn;have hxk:=hx k hkn;have hxh:((x k).hn:Int)<=140737488355328:=by have:=hxk.h;omega
   have hsk:(x k).kind.size<=maxLen:=by unfold maxLen;have:=hxk.k;omega
   have hsn:(x k).name.size<=maxLen:=by unfold maxLen;have:=hxk.n;omega
   obtain⟨d0,d1,d2,d3,d4,d5,d6⟩:=hcx.below hBw Zb;have HS:=Ag hsx;have HC:=Ag hc;have HF:=Ag hf;have HA:=Ag hall;have hky:=KM (x k).kind (x k).name hsk hsn;have JJ:=Ag hown;clear hc hf hco hx hcx hsx hall hown;cases hfd:CM h (x k).kind (x k).name n with
   |none=>
    have hhas:=(nL _ _ hsk hsn).2 hfd;have HL:=Ag (show agO floor x n h k=decide ((x k).ver<=floor)by unfold agO;rw[hfd]);clear hfd;go_wp2_with fail;refine(BG (x k) ah ch _).mono ?_;rintro e w1 ⟨rfl,hb1⟩;have hown1:=Ag (AQ (JJ.alloc _) hb1 Zd);have hB1:Below (w.1.size+1) (w.alloc (.cells #[.i now,.i floor,.l (some ⟨b,off,none⟩) m c1,.l a2 n c2,.l a3 n3 c3] 27)) w1:=(hb.alloc hsz (.cells (vO (x k) ah ch) 61)).trans (hb1.mono Zd);have hz1:wr.1.size<w1.1.size:=by have:=hb1.size;simp at this;omega
    have p0:=As hb1 0;have p1:=As hb1 1;have p2:=As hb1 2;have p3:=As hb1 3;have p4:=As hb1 4;have p5:=As hb1 5;have p6:=As hb1 6;simp only[Ac,Ab,Aa]at p0 p1 p2 p3 p4 p5 p6;have o1:=As Vq 1;have o3:=As Vq 3;simp only[Ac,Ab,Aa]at o1 o3;clear hb1 d0 d1 d2 d3 d4 d5 d6 JJ;by_cases hv:(x k).ver<=floor
    .have HN:=Ag (show agO floor x n h k=true by rw[HL.out];exact decide_eq_true hv);have hd:decide (floor<(x k).ver)=false:=decide_eq_false Zb;go_wp2_with (at_lookup;go_must(refine wpList_lookup_own_ok_int _ rfl _ _ 53 rfl 65 3 .i64 BK underlying53 underlying3 (GJ _) (w.1.size+1) n D rfl hown1 _ _ rfl hky ?_;intro c hat hwc;clear hat hwc));have hne:Nonempty (GW w1):=⟨⟨_,Al _ _⟩⟩;refine AA Ze Ze ?_;repeat(go_big_quiet_step(fail))
     refine wpQuiet_nil ?_;rintro w2 ⟨u,hu⟩;have hw2:Below w1.1.size w1 w2:=hu▸u.prop;clear hu u hne;have hB2:=hB1.trans (hw2.mono Zb);have hown2:=Ag (AQ hown1 hw2 hown1.lt);clear hown1 p0 p1 p2 p3 p4 p5 p6 o1 o3;exact Xx
    .have HE:=Ag (show MB floor m x n h=false by unfold MB;rw[AV hkn (HL.trans (decide_eq_false hv))];rfl);have hd:decide (floor<(x k).ver)=true:=decide_eq_true Zb;go_wp2_with (at_lookup;go_must(refine wpList_lookup_own_ok_int _ rfl _ _ 53 rfl 65 3 .i64 BK underlying53 underlying3 (GJ _) (w.1.size+1) n D rfl hown1 _ _ rfl hky ?_;intro c hat hwc;clear hat hwc));go_ret;exact⟨Av HE.symm,(Am _ _).trans (hB1.mono Zb)⟩
   |some j=>
    obtain⟨hhas,hatk⟩:=(nL _ _ hsk hsn).1 j hfd;have hjn:=(DZ hfd).1;have HL:=Ag (show agO floor x n h k=(!(h j).gone&&BT (x k) (h j).ob)by unfold agO;rw[hfd]);have RO:=Ag hatk;clear hfd hatk;obtain⟨b',off',ah',ch',rfl,hlo',hbh',hcy,hsy⟩:=HC j hjn;have hjh:((h j).ob.hn:Int)<=140737488355328:=by have:=(HF j hjn).h;omega
    have nM:=Ag hsy;clear hsy;have hjz:(j:Int)<n:=Zb;go_wp2_with fail;refine(BG (x k) ah ch _).mono ?_;rintro e w1 ⟨rfl,hb1⟩;have hown1:=Ag (AQ (JJ.alloc _) hb1 Zd);have hB1:Below (w.1.size+1) (w.alloc (.cells #[.i now,.i floor,.l (some ⟨b,off,none⟩) m c1,.l (some ⟨b',off',none⟩) n c2,.l a3 n3 c3] 27)) w1:=(hb.alloc hsz (.cells (vO (x k) ah ch) 61)).trans (hb1.mono Zd);have hz1:wr.1.size<w1.1.size:=by have:=hb1.size;simp at this;omega
    have p0:=As hb1 0;have p1:=As hb1 1;have p2:=As hb1 2;have p3:=As hb1 3;have p4:=As hb1 4;have p5:=As hb1 5;have p6:=As hb1 6;simp only[Ac,Ab,Aa]at p0 p1 p2 p3 p4 p5 p6;have o1:=As Vq 1;have o3:=As Vq 3;simp only[Ac,Ab,Aa]at o1 o3;clear hb1 d0 d1 d2 d3 d4 d5 d6 JJ;go_wp2_with (at_lookup;go_must(refine wpList_lookup_own_ok_int _ rfl _ _ 53 rfl 65 3 .i64 BK underlying53 underlying3 (GJ _) (w.1.size+1) n D rfl hown1 _ _ rfl hky ?_;intro c hat hwc;have hci:c=(j:Int):=Le (hat.symm.trans RO);subst hci;clear hat hwc));have hBw1:Below w.1.size w w1:=(Am _ _).trans (hB1.mono Zb);obtain⟨f0,f1,f2,f3,f4,f5,f6,f7,f8⟩:=hcy.below hBw1 Zb;have hhw:hi<=w1.1.size:=Zb;have y2:=Ah f2 Qb;have y3:=Ah f3 Qb;have y4:=Ah f4 Qb;have y5:=Ah f5 Qb;have y6:=Ah f6 Qb;have y7:=Ah f7 Qb;have y8:=Ah f8 Qb;have x0:=Ah p0 hz1;have x1:=Ah p1 hz1;have x2:=Ah p2 hz1;have x3:=Ah p3 hz1;have x4:=Ah p4 hz1;have x5:=Ah p5 hz1;have x6:=Ah p6 hz1;have z3:=Ah o3 Zg;have hhu:∀u:GW w1,hi<=u.val.1.size:=λu=>AG hhw u.prop.size;have hu1:∀u:GW w1,Ax u.val lo hi ah (x k).hn (x k).hs:=λu=>HS.below (hBw1.trans (u.prop.mono Zb)) hhi;have hu2:∀u:GW w1,Ax u.val lo hi ah' (h j).ob.hn (h j).ob.hs:=λu=>nM.below (hBw1.trans (u.prop.mono Zb)) hhi;cases hg:(h j).gone with
    |true=>have HE:=Ag (show MB floor m x n h=false by unfold MB;rw[AV hkn (HL.trans (by rw[hg];rfl))];rfl);rw[hg]at f1;have y1:=Ah f1 Qb;clear hg f0 f1 f2 f3 f4 f5 f6 f7 f8 hcy;exact Y4
    |false=>rw[hg]at f1;have y1:=Ah f1 Qb;have I1:=Ag (show agO floor x n h k=BT (x k) (h j).ob by rw[HL.out,hg];rfl);clear hg f0 f1 f2 f3 f4 f5 f6 f7 f8 hcy;cases hsm:BT (x k) (h j).ob with
     |false=>have HE:=Ag (show MB floor m x n h=false by unfold MB;rw[AV hkn (I1.trans hsm)];rfl);exact Y4
     |true=>
      have HN:=Ag (I1.trans hsm);have hne:Nonempty (GW w1):=⟨⟨_,Al _ _⟩⟩;refine AA Ze Ze ?_;repeat(go_big_quiet_step((go_at_call 80;go_must(exact Bf (M7 (x k) (h j).ob ah ah' ch ch' _ lo hi (hhu _) hxh hjh (hu1 _) (hu2 _))))))
      refine wpQuiet_nil ?_;rintro w2 ⟨u,hu⟩;have hw2:Below w1.1.size w1 w2:=hu▸u.prop;clear hu u hne;have hB2:=hB1.trans (hw2.mono Zb);have hown2:=Ag (AQ hown1 hw2 hown1.lt);clear hown1 hhu hu1 hu2 z3 x0 x1 x2 x3 x4 x5 x6 y1 y2 y3 y4 y5 y6 y7 y8 p0 p1 p2 p3 p4 p5 p6 o1 o3;exact Xx
  .have:m=k:=Zb;subst this;have HO:=Ag (show Be (agO floor x n h) m=true from AC.2 hall);have o2:=As Mj 2;have o3:=As Mj 3;simp only[Ac,Ab,Aa]at o2 o3;have HD:=Ag hown;clear hall hown;go_wp2_with fail;refine(S7 m x a1 c1 wr lo hi Zb hm hx (hco.below hBw hhi)).mono ?_;rintro e wp ⟨E,rfl,hownE,htoldE,hbp⟩;have pK:=Ag hownE;have oU:=Ag htoldE;have q3:=(hbp.cell (p:=⟨w.1.size,3,none⟩) Zg).trans o3;clear hownE htoldE o2 o3 hx hco;obtain⟨W,hW⟩:∃W,W=wr:=⟨wr,rfl⟩;subst hW;go_wp2;go_loopw[66](λi wq=>∃k:Nat,k<=n/\i=.i k/\Below W.1.size W wq/\wq.ownsMap prog 65 (plainElem prog 3) W.1.size m E/\∀j,j<k->agH m x n h j=true)(λi _=>n-(intOf i).toNat);case atStart=>exact⟨0,Aw _,rfl,hbp,pK,λj hj=>absurd hj (Ai _)⟩
   case round=>
    obtain⟨k,hk2,rfl,hb2,hownE,hall⟩:=hrel;have hBq:Below w.1.size w wr:=hBw.trans (hb2.mono hBw.size);have hltE:=hownE.lt;clear q3 pK hbp;by_cases hkn2:k<n
    .obtain⟨b,off,ah,ch,rfl,hlo,hbh,hcx,hsx⟩:=hc k hkn2;have hfk:=hf k hkn2;have hsk:(h k).ob.kind.size<=maxLen:=by unfold maxLen;have:=hfk.k;omega
     have hsn:(h k).ob.name.size<=maxLen:=by unfold maxLen;have:=hfk.n;omega
     obtain⟨d0,d1,d2,d3,d4,d5,d6,d7,d8⟩:=hcx.below hBq Zb;have hky:=KM (h k).ob.kind (h k).ob.name hsk hsn;obtain⟨i',hli⟩:=NR (h:=h) hkn2;have Oi:=Ag hli;have hin:=(DZ hli).1;have RO:=Ag ((nL _ _ hsk hsn).1 i' hli).2;have HA:=Ag hall;have oY:=Ag hownE;clear hli hc hf hcx hsx hall hownE hb;go_wp2_with fail;refine(BG (h k).ob ah ch _).mono ?_;rintro e w1 ⟨rfl,hb1⟩;have hE1:=Ag (AQ (oY.alloc _) hb1 Zd);have hB1:Below W.1.size W w1:=(hb2.alloc Zb _).trans (hb1.mono Zd);have hz1:wr.1.size<w1.1.size:=by have:=hb1.size;simp at this;omega
     have p0:=As hb1 0;have p1:=As hb1 1;have p2:=As hb1 2;have p3:=As hb1 3;have p4:=As hb1 4;have p5:=As hb1 5;have p6:=As hb1 6;have p7:=As hb1 7;have p8:=As hb1 8;simp only[Ac,Ab,Aa]at p0 p1 p2 p3 p4 p5 p6 p7 p8;clear hb1 d0 d1 d2 d3 d4 d5 d6 d7 d8 oY;cases hfn:Jb x (h k).ob.kind (h k).ob.name m with
     |none=>
      have hhas:=(oU _ _ hsk hsn).2 hfn;have mT:=Ag hfn;clear hfn;go_wp2_with (at_lookup;go_must(refine wpList_lookup_own_ok_int _ rfl _ _ 53 rfl 65 3 .i64 BK underlying53 underlying3 (GJ _) W.1.size m E rfl hE1 _ _ rfl hky ?_;intro c hat hwc;clear hat hwc));refine(BG (h k).ob ah ch _).mono ?_;rintro e w2 ⟨rfl,hb22⟩;have hB2:Below W.1.size W w2:=hB1.trans (hb22.mono Zb);have hE2:=Ag (AQ hE1 hb22 Zb);have hD2:=Ag (AQ HD hB2 Zb);have r1:=(hb22.cell (p:=⟨wr.1.size,1,none⟩) hz1).trans p1;clear hb22 p0 p1 p2 p3 p4 p5 p6 p7 p8 hE1;by_cases hii:i'=k;case neg=>exact Wb
      subst hii;cases hg:(h i').gone with
      |true=>have HN:=Ag (show agH m x n h i'=true by unfold agH;rw[Oi.out,hg];simp);exact SO
      |false=>have HE:=Ag (show MB floor m x n h=false by unfold MB;rw[AV hkn2 (show agH m x n h i'=false by unfold agH;rw[Oi.out,hg,mT.out];simp)];simp);rw[hg]at r1;clear hg;go_wp2_with (at_lookup;go_must(refine wpList_lookup_own_int _ rfl _ _ 53 rfl 65 3 .i64 BK underlying53 underlying3 (GJ _) (w.1.size+1) n D rfl hD2 _ _ rfl hky ?_;intro c2 hat hwc;have hci:c2=(i':Int):=Le (hat.symm.trans RO);subst hci;clear hat hwc));go_ret;exact⟨Av HE.symm,hBw.trans (hB2.mono hBw.size)⟩
     |some g=>
      have hhas:=((oU _ _ hsk hsn).1 g hfn).1;have mT:=Ag hfn;clear hfn;go_wp2_with (at_lookup;go_must(refine wpList_lookup_own_ok_int _ rfl _ _ 53 rfl 65 3 .i64 BK underlying53 underlying3 (GJ _) W.1.size m E rfl hE1 _ _ rfl hky ?_;intro c hat hwc;clear hat hwc));refine(BG (h k).ob ah ch _).mono ?_;rintro e w2 ⟨rfl,hb22⟩;have hB2:Below W.1.size W w2:=hB1.trans (hb22.mono Zb);have hE2:=Ag (AQ hE1 hb22 Zb);have hD2:=Ag (AQ HD hB2 Zb);have r1:=(hb22.cell (p:=⟨wr.1.size,1,none⟩) hz1).trans p1;clear hb22 p0 p1 p2 p3 p4 p5 p6 p7 p8 hE1;by_cases hii:i'=k;case neg=>exact Wb
      subst hii;cases hg:(h i').gone with
      |true=>have HN:=Ag (show agH m x n h i'=true by unfold agH;rw[Oi.out,hg];simp);exact SO
      |false=>have HN:=Ag (show agH m x n h i'=true by unfold agH;rw[Oi.out,hg,mT.out];simp);exact SO
    .have HE:=Ag (show MB floor m x n h=true by unfold MB;rw[HO.out,AC.2 (λi hi=>hall i Zb)];rfl);clear hc hf hall hownE;go_wp2;go_ret;exact⟨Av HE.symm,hBq⟩
end Go.Proofs.YtofencldleijcaaGreat
namespace Go.Proofs.YtofencldleijcaaGreat
open Go.RowKit Go.Maps Go.Proofs.Tryz
def Hw (B:Bk):Nat->Bool
 |0=>I5 B.now B.floor
 |1=>DK B.on B.os B.now
 |2=>DV B.on B.os
 |3=>EQ B.now B.floor B.hn B.hs
 |4=>Be (Gj B.floor B.hs) B.hn
 |5=>MB B.floor B.on B.os B.hn B.hs
 |_=>Gg B.tn B.ts B.now
theorem K8{now floor:Int}(h:I5 now floor=true):0<=floor/\floor<=now/\now<=1000000:=by unfold I5 DW at h;simp at h;omega
theorem KE{P:Prop}(h:P:=by go_ret;exact⟨Av HE.symm,hBw.trans (hb2.mono Zb)⟩):P:=h
theorem Gn (B:Bk)(a1 a2 a3:OA)(c1 c2 c3:Nat)(w:World)(lo hi:Nat)(hhi:hi<=w.1.size)(hfit:Dm B)(hin:B7 w lo hi B a1 a2 a3):Calls prog 17 #[.agg (vB B a1 a2 a3 c1 c2 c3)] w λe w'=>e=.returned (.bool (Be (Hw B) 7))/\Below w.1.size w w':=by
 obtain⟨f1,f2,f3,f4,f5,f6⟩:=hfit;go_enter func17,ntmps17;go_wp2_with fail;go_loopw[9](λi wr=>∃k:Nat,k<=7/\i=.i k/\Below (w.1.size+1+1) ((w.alloc (.cells (vB B a1 a2 a3 c1 c2 c3) 27)).alloc (.cells #[.func (.func 46) #[] #[],.func (.func 47) #[] #[],.func (.func 48) #[] #[],.func (.func 49) #[] #[],.func (.func 50) #[] #[],.func (.func 51) #[] #[],.func (.func 52) #[] #[]] 48)) wr/\∀j,j<k->Hw B j=true)(λi _=>7-(intOf i).toNat);case atStart=>exact⟨0,Aw _,rfl,Al _ _,λj hj=>absurd hj (Ai _)⟩
 case round=>
  obtain⟨k,hk,rfl,hb,hall⟩:=hrel;have hBw:Below w.1.size w wr:=((Am _ _).alloc Zc _).trans (hb.mono Zb);have hsz:w.1.size+2<=wr.1.size:=by have:=hb.size;simpa using this
  have hhw:hi<=wr.1.size:=Zb;have HI:=Ag (show B7 wr lo hi B a1 a2 a3 from⟨hin.o.below hBw hhi,hin.h.below hBw hhi,hin.t.below hBw hhi⟩);have HA:=Ag hall;have e0:wr.cell? ⟨w.1.size,0,none⟩=some (.i B.now):=(hb.cell (p:=⟨w.1.size,0,none⟩) Zg).trans Zc;have e1:wr.cell? ⟨w.1.size,1,none⟩=some (.i B.floor):=(hb.cell (p:=⟨w.1.size,1,none⟩) Zg).trans Zc;have e2:wr.cell? ⟨w.1.size,2,none⟩=some (.slice a1 B.on c1):=(hb.cell (p:=⟨w.1.size,2,none⟩) Zg).trans Zc;have e3:wr.cell? ⟨w.1.size,3,none⟩=some (.slice a2 B.hn c2):=(hb.cell (p:=⟨w.1.size,3,none⟩) Zg).trans Zc;have e4:wr.cell? ⟨w.1.size,4,none⟩=some (.slice a3 B.tn c3):=(hb.cell (p:=⟨w.1.size,4,none⟩) Zg).trans Zc;clear hin;rcases(show k=0\/k=1\/k=2\/k=3\/k=4\/k=5\/k=6\/k=7 by omega)with rfl|rfl|rfl|rfl|rfl|rfl|rfl|rfl;all_goals clear hall
  iterate 1
   .have g:wr.cell? ⟨w.1.size+1,0,none⟩=some (.func (.func 46) #[] #[]):=(hb.cell (p:=⟨w.1.size+1,0,none⟩) Ss).trans Zc;cases hp:Hw B 0 with
    |false=>have HE:=Ag (show Be (Hw B) 7=false from AV (show 0<7 by omega) hp);have hp':I5 B.now B.floor=false:=hp;go_wp2_with (go_at_call 46;refine(Mg B.now B.floor a1 a2 a3 B.on c1 B.hn c2 B.tn c3 wr).mono ?_;rintro e w2 ⟨rfl,hb2⟩;rw[hp']);exact KE
    |true=>
     have HP:=Ag hp;have hp':I5 B.now B.floor=true:=hp;go_wp2_with (go_at_call 46;refine(Mg B.now B.floor a1 a2 a3 B.on c1 B.hn c2 B.tn c3 wr).mono ?_;rintro e w2 ⟨rfl,hb2⟩;rw[hp']);go_roundw;case rel=>exact⟨1,Zb,by go_num,hb.trans (hb2.mono Zb),λj hj=>(by
      rcases At j 0 with h3|h3;.exact HA j h3
      .have:j=0:=Zb;subst this;exact HP)⟩
     case measure=>simp[intOf]
   .have g:wr.cell? ⟨w.1.size+1,1,none⟩=some (.func (.func 47) #[] #[]):=(hb.cell (p:=⟨w.1.size+1,1,none⟩) Ss).trans Zc;cases hp:Hw B 1 with
    |false=>have HE:=Ag (show Be (Hw B) 7=false from AV (show 1<7 by omega) hp);have hp':DK B.on B.os B.now=false:=hp;go_wp2_with (go_at_call 47;refine(Mi B.now B.floor B.on B.os a1 a2 a3 c1 B.hn c2 B.tn c3 wr lo hi hhw f1 f4 HI.o).mono ?_;rintro e w2 ⟨rfl,hb2⟩;rw[hp']);exact KE
    |true=>
     have HP:=Ag hp;have hp':DK B.on B.os B.now=true:=hp;go_wp2_with (go_at_call 47;refine(Mi B.now B.floor B.on B.os a1 a2 a3 c1 B.hn c2 B.tn c3 wr lo hi hhw f1 f4 HI.o).mono ?_;rintro e w2 ⟨rfl,hb2⟩;rw[hp']);go_roundw;case rel=>exact⟨2,Zb,by go_num,hb.trans (hb2.mono Zb),λj hj=>(by
      rcases At j 1 with h3|h3;.exact HA j h3
      .have:j=1:=Zb;subst this;exact HP)⟩
     case measure=>simp[intOf]
   .have g:wr.cell? ⟨w.1.size+1,2,none⟩=some (.func (.func 48) #[] #[]):=(hb.cell (p:=⟨w.1.size+1,2,none⟩) Ss).trans Zc;cases hp:Hw B 2 with
    |false=>have HE:=Ag (show Be (Hw B) 7=false from AV (show 2<7 by omega) hp);have hp':DV B.on B.os=false:=hp;go_wp2_with (go_at_call 48;refine(Mh B.now B.floor B.on B.os a1 a2 a3 c1 B.hn c2 B.tn c3 wr lo hi hhw f1 f4 HI.o).mono ?_;rintro e w2 ⟨rfl,hb2⟩;rw[hp']);exact KE
    |true=>
     have HP:=Ag hp;have hp':DV B.on B.os=true:=hp;go_wp2_with (go_at_call 48;refine(Mh B.now B.floor B.on B.os a1 a2 a3 c1 B.hn c2 B.tn c3 wr lo hi hhw f1 f4 HI.o).mono ?_;rintro e w2 ⟨rfl,hb2⟩;rw[hp']);go_roundw;case rel=>exact⟨3,Zb,by go_num,hb.trans (hb2.mono Zb),λj hj=>(by
      rcases At j 2 with h3|h3;.exact HA j h3
      .have:j=2:=Zb;subst this;exact HP)⟩
     case measure=>simp[intOf]
   .have g:wr.cell? ⟨w.1.size+1,3,none⟩=some (.func (.func 49) #[] #[]):=(hb.cell (p:=⟨w.1.size+1,3,none⟩) Ss).trans Zc;have hnn:=HA.out 0 Zb;obtain⟨hn1,hn2,hn3⟩:=K8 hnn;clear hnn;cases hp:Hw B 3 with
    |false=>have HE:=Ag (show Be (Hw B) 7=false from AV (show 3<7 by omega) hp);have hp':EQ B.now B.floor B.hn B.hs=false:=hp;go_wp2_with (go_at_call 49;refine(K2 B.now B.floor B.hn B.hs a1 a2 a3 B.on c1 c2 B.tn c3 wr lo hi hhw f2 hn1 hn2 hn3 f5 HI.h).mono ?_;rintro e w2 ⟨rfl,hb2⟩;rw[hp']);exact KE
    |true=>
     have HP:=Ag hp;have hp':EQ B.now B.floor B.hn B.hs=true:=hp;go_wp2_with (go_at_call 49;refine(K2 B.now B.floor B.hn B.hs a1 a2 a3 B.on c1 c2 B.tn c3 wr lo hi hhw f2 hn1 hn2 hn3 f5 HI.h).mono ?_;rintro e w2 ⟨rfl,hb2⟩;rw[hp']);go_roundw;case rel=>exact⟨4,Zb,by go_num,hb.trans (hb2.mono Zb),λj hj=>(by
      rcases At j 3 with h3|h3;.exact HA j h3
      .have:j=3:=Zb;subst this;exact HP)⟩
     case measure=>simp[intOf]
   .have g:wr.cell? ⟨w.1.size+1,4,none⟩=some (.func (.func 50) #[] #[]):=(hb.cell (p:=⟨w.1.size+1,4,none⟩) Ss).trans Zc;cases hp:Hw B 4 with
    |false=>have HE:=Ag (show Be (Hw B) 7=false from AV (show 4<7 by omega) hp);have hp':Be (Gj B.floor B.hs) B.hn=false:=hp;go_wp2_with (go_at_call 50;refine(KX B.now B.floor B.hn B.hs a1 a2 a3 B.on c1 c2 B.tn c3 wr lo hi hhw f2 f5 HI.h).mono ?_;rintro e w2 ⟨rfl,hb2⟩;rw[hp']);exact KE
    |true=>
     have HP:=Ag hp;have hp':Be (Gj B.floor B.hs) B.hn=true:=hp;go_wp2_with (go_at_call 50;refine(KX B.now B.floor B.hn B.hs a1 a2 a3 B.on c1 c2 B.tn c3 wr lo hi hhw f2 f5 HI.h).mono ?_;rintro e w2 ⟨rfl,hb2⟩;rw[hp']);go_roundw;case rel=>exact⟨5,Zb,by go_num,hb.trans (hb2.mono Zb),λj hj=>(by
      rcases At j 4 with h3|h3;.exact HA j h3
      .have:j=4:=Zb;subst this;exact HP)⟩
     case measure=>simp[intOf]
   .have g:wr.cell? ⟨w.1.size+1,5,none⟩=some (.func (.func 51) #[] #[]):=(hb.cell (p:=⟨w.1.size+1,5,none⟩) Ss).trans Zc;cases hp:Hw B 5 with
    |false=>have HE:=Ag (show Be (Hw B) 7=false from AV (show 5<7 by omega) hp);have hp':MB B.floor B.on B.os B.hn B.hs=false:=hp;go_wp2_with (go_at_call 51;refine(O9 B.now B.floor B.on B.hn B.os B.hs a1 a2 a3 c1 c2 B.tn c3 wr lo hi hhw f1 f2 f4 f5 HI.o HI.h).mono ?_;rintro e w2 ⟨rfl,hb2⟩;rw[hp']);exact KE
    |true=>
     have HP:=Ag hp;have hp':MB B.floor B.on B.os B.hn B.hs=true:=hp;go_wp2_with (go_at_call 51;refine(O9 B.now B.floor B.on B.hn B.os B.hs a1 a2 a3 c1 c2 B.tn c3 wr lo hi hhw f1 f2 f4 f5 HI.o HI.h).mono ?_;rintro e w2 ⟨rfl,hb2⟩;rw[hp']);go_roundw;case rel=>exact⟨6,Zb,by go_num,hb.trans (hb2.mono Zb),λj hj=>(by
      rcases At j 5 with h3|h3;.exact HA j h3
      .have:j=5:=Zb;subst this;exact HP)⟩
     case measure=>simp[intOf]
   .have g:wr.cell? ⟨w.1.size+1,6,none⟩=some (.func (.func 52) #[] #[]):=(hb.cell (p:=⟨w.1.size+1,6,none⟩) Ss).trans Zc;cases hp:Hw B 6 with
    |false=>have HE:=Ag (show Be (Hw B) 7=false from AV (show 6<7 by omega) hp);have hp':Gg B.tn B.ts B.now=false:=hp;go_wp2_with (go_at_call 52;refine(L7 B.now B.floor B.tn B.ts a1 a2 a3 B.on c1 B.hn c2 c3 wr lo hi hhw f3 f6 HI.t).mono ?_;rintro e w2 ⟨rfl,hb2⟩;rw[hp']);exact KE
    |true=>
     have HP:=Ag hp;have hp':Gg B.tn B.ts B.now=true:=hp;go_wp2_with (go_at_call 52;refine(L7 B.now B.floor B.tn B.ts a1 a2 a3 B.on c1 B.hn c2 c3 wr lo hi hhw f3 f6 HI.t).mono ?_;rintro e w2 ⟨rfl,hb2⟩;rw[hp']);go_roundw;case rel=>exact⟨7,Zb,by go_num,hb.trans (hb2.mono Zb),λj hj=>(by
      rcases At j 6 with h3|h3;.exact HA j h3
      .have:j=6:=Zb;subst this;exact HP)⟩
     case measure=>simp[intOf]
   .have HE:=Ag (show Be (Hw B) 7=true from AC.2 HA);go_wp2;go_ret;exact⟨Av HE.symm,hBw⟩
end Go.Proofs.YtofencldleijcaaGreat
namespace Go.Proofs.YtofencldleijcaaGreat
open Go.RowKit Go.Proofs.Tryz
/-! what a write comes to -/
theorem RE:∀a b:List UInt8,Op.bytesLess a b=false->¬a=b->Op.bytesLess b a=true
 |[],[],_,h=>absurd rfl h
 |[],_::_,h,_=>by simp[Op.bytesLess]at h
 |_::_,[],_,_=>rfl
 |x::a,y::b,h,hn=>by
  simp only[Op.bytesLess]at h⊢;by_cases e:x=y;.subst e;simp at h⊢;exact RE a b h (λe=>hn (by rw[e]))
  .simp[e]at h;have e2:¬y=x:=λq=>e q.symm;simp[e2];have h1:¬x.toNat<y.toNat:=by intro hh;exact absurd (UInt8.lt_iff_toNat_lt.2 hh) TX
   have h2:¬x.toNat=y.toNat:=λq=>e (UInt8.toNat_inj.1 q);exact UInt8.lt_iff_toNat_lt.2 Zb
theorem ML{a b:ByteArray}(h:ER a b=false)(hn:¬a=b):ER b a=true:=RE _ _ h (λe=>hn (DE e))
theorem Fn{x y z:Ob}(h1:CN x y=true)(h2:CN y z=true):CN x z=true:=by
 unfold CN at h1 h2⊢;by_cases e1:x.kind.toList=y.kind.toList
 .by_cases e2:y.kind.toList=z.kind.toList
  .rw[if_pos e1]at h1;rw[if_pos e2]at h2;rw[if_pos (e1.trans e2)];exact I3 h1 h2
  .rw[if_neg e2]at h2;rw[if_neg (λe=>e2 (e1.symm.trans e))];unfold ER at h2⊢;rw[e1];exact h2
 .rw[if_neg e1]at h1;by_cases e2:y.kind.toList=z.kind.toList;.rw[if_neg (λe=>e1 (e.trans e2.symm))];unfold ER at h1⊢;rw[<-e2];exact h1
  .rw[if_neg e2]at h2;have h3:=I3 h1 h2;by_cases e3:x.kind.toList=z.kind.toList;.rw[Gq e3]at h3;cases h3
   .rw[if_neg e3];exact h3
def QQ (n:Nat)(x:Nat->Ob):Prop:=∀i j,i<j->j<n->CN (x i) (x j)=true
def IC (n:Nat)(s:Nat->ByteArray):Prop:=∀i j,i<j->j<n->ER (s i) (s j)=true
theorem J0{n:Nat}{x:Nat->Ob}(h:E3 n x=true):QQ n x:=by unfold E3 at h;rw[AC]at h;intro i j;induction j with
 |zero=>intro h1;omega
 |succ j ih=>
  intro h1 h2;have hj:=h (j+1) h2;simp at hj;rcases At i j with h3|h3;.exact Fn (ih h3 Zb) hj
  .obtain rfl:i=j:=Zb;exact hj
theorem Xy{n:Nat}{s:Nat->ByteArray}(h:OB n s=true):IC n s:=by rw[Jv,Ak]at h;have h:=h.1;unfold UH at h;rw[AC]at h;intro i j;induction j with
 |zero=>intro h1;omega
 |succ j ih=>
  intro h1 h2;have hj:=h (j+1) h2;simp at hj;rcases At i j with h3|h3;.exact I3 (ih h3 Zb) hj
  .obtain rfl:i=j:=Zb;exact hj
def E7 (s:Nat->ByteArray)(a:ByteArray):Nat->Nat
 |0=>0
 |n+1=>if E7 s a n=n/\ER (s n) a=true then n+1 else E7 s a n
theorem IS (s:Nat->ByteArray)(a:ByteArray):∀n,E7 s a n<=n/\(∀j,j<E7 s a n->ER (s j) a=true)/\(E7 s a n<n->ER (s (E7 s a n)) a=false)
 |0=>⟨Az _,λj hj=>absurd hj (Ai _),λh=>absurd h (Ai _)⟩
 |n+1=>by
  obtain⟨h1,h2,h3⟩:=IS s a n;unfold E7;by_cases e:E7 s a n=n/\ER (s n) a=true
  .rw[if_pos e];refine⟨Az _,λj hj=>?_,λh=>absurd h (AJ _)⟩;rcases At j n with h|h;.exact h2 j Zb
   .obtain rfl:j=n:=Zb;exact e.2
  .rw[if_neg e];refine⟨Zb,h2,λ_=>?_⟩;rcases At (E7 s a n) n with h|h;.exact h3 h
   .have e1:E7 s a n=n:=Zb;rw[e1];cases hx:ER (s n) a with
    |false=>rfl
    |true=>exact absurd ⟨e1,hx⟩ e
theorem Sl{s:Nat->ByteArray}{a:ByteArray}{n i:Nat}(hi:i<=n)(h1:∀j,j<i->ER (s j) a=true)(h2:i<n->ER (s i) a=false):E7 s a n=i:=by
 obtain⟨g1,g2,g3⟩:=IS s a n;rcases EH (E7 s a n) i with h|h|h;.have e1:=h1 _ h;rw[g3 Zb]at e1;cases e1
 .exact h
 .have e1:=g2 _ h;rw[h2 Zb]at e1;cases e1
def Mr (s:Nat->ByteArray)(k:Nat)(a:ByteArray):Nat->ByteArray:=λj=>if j<k then s j else if j=k then a else s (j-1)
def Jq (s:Nat->ByteArray)(k:Nat):Nat->ByteArray:=λj=>if j<k then s j else s (j+1)
theorem gT{n:Nat}{s:Nat->ByteArray}{a:ByteArray}(h:IC n s):I4 n s a=(decide (E7 s a n<n)&&decide (s (E7 s a n)=a)):=by
 obtain⟨g1,g2,g3⟩:=IS s a n;by_cases e:E7 s a n<n/\s (E7 s a n)=a
 .rw[Nx e.1 e.2];simp[e.1,e.2]
 .rw[Uf (λi hi q=>e ?_)]
  .symm;rw[Jd];by_cases e1:E7 s a n<n;.exact AD (by simpa using λq=>e ⟨e1,q⟩)
   .exact AO (by simpa using e1)
  .have hr:E7 s a n=i:=by
    refine Sl (Nat.le_of_lt hi) (λj hj=>?_) (λ_=>?_);.rw[<-q];exact h j i hj hi
    .rw[q];exact Gq rfl
   rw[hr];exact⟨hi,q⟩
def B9 (B:Bk)(v:Wr):Ob:=BS B.os v.kind v.name B.on
def Dp (B:Bk)(v:Wr):Int:=if B8 B.os v.kind v.name B.on=decide (v.op=1)then 3 else if¬v.seen=0/\¬v.seen=(B9 B v).ver then 4 else if(B9 B v).ending=true/\¬v.op=5 then 5 else if v.op=1 then(if 100<=B.on then 7 else 0)else if v.op=4 then(if I4 (B9 B v).hn (B9 B v).hs v.hold=true then 6 else if 5<=(B9 B v).hn then 7 else 0)else if v.op=5 then(if I4 (B9 B v).hn (B9 B v).hs v.hold=true then 0 else 6)else 0
def Bv (B:Bk)(v:Wr):Int:=if Dp B v=0 then(if 1000000<=B.now then 8 else 0)else Dp B v
def Qv (B:Bk)(v:Wr):Int:=if Dp B v=4 then(B9 B v).ver else 0
def IP (B:Bk)(v:Wr)(ve:Int):Ob:=if v.op=1 then⟨v.kind,v.name,ve,B.now+1,v.text,false,if LO v.hold then 0 else 1,λ_=>v.hold⟩else if v.op=2 then⟨(B9 B v).kind,(B9 B v).name,ve,(B9 B v).born,v.text,(B9 B v).ending,(B9 B v).hn,(B9 B v).hs⟩else if v.op=3 then⟨(B9 B v).kind,(B9 B v).name,ve,(B9 B v).born,(B9 B v).text,true,(B9 B v).hn,(B9 B v).hs⟩else if v.op=4 then⟨(B9 B v).kind,(B9 B v).name,ve,(B9 B v).born,(B9 B v).text,(B9 B v).ending,(B9 B v).hn+1,Mr (B9 B v).hs (E7 (B9 B v).hs v.hold (B9 B v).hn) v.hold⟩else⟨(B9 B v).kind,(B9 B v).name,ve,(B9 B v).born,(B9 B v).text,(B9 B v).ending,(B9 B v).hn-1,Jq (B9 B v).hs (E7 (B9 B v).hs v.hold (B9 B v).hn)⟩
def Cp (B:Bk)(v:Wr):Ob:=IP B v (B.now+1)
def CK (B:Bk)(v:Wr):Bool:=!CJ (Cp B v)
def Dc (B:Bk)(v:Wr):Ch:=⟨B.now+1,CK B v,Cp B v⟩
def GG (B:Bk):Nat:=if B.hn=200 then 1 else 0
def fP (B:Bk)(c:Ch):Nat->Ch:=λi=>if i<B.hn-GG B then B.hs (i+GG B)else c
def Eg (B:Bk)(v:Wr):Bk:={now:=B.now+1,floor:=if B.hn=200 then(B.hs 0).ver else B.floor,on:=(Cq B.on B.os (Cp B v) (CK B v)).m,os:=(Cq B.on B.os (Cp B v) (CK B v)).y,hn:=B.hn-GG B+1,hs:=fP B (Dc B v),tn:=B.tn,ts:=B.ts}
structure IR (B:Bk)(v:Wr):Prop where
 fit:Dm B
 now0:0<=B.now
 now1:B.now<=1000000
 on:B.on<=100
 hn:B.hn<=200
 asc:QQ B.on B.os
 hold:∀i,i<B.on->(B.os i).hn<=5/\IC (B.os i).hn (B.os i).hs
 wr:EU v=true
 wf:Ml v
theorem M5{B:Bk}{v:Wr}(hf:Dm B)(hv:Be (Hw B) 7=true)(hw:EU v=true)(wf:Ml v):IR B v:=by rw[AC]at hv;have c0:I5 B.now B.floor=true:=hv 0 Zb;have c1:DK B.on B.os B.now=true:=hv 1 Zb;have c3:EQ B.now B.floor B.hn B.hs=true:=hv 3 Zb;unfold I5 at c0;unfold DK at c1;unfold EQ at c3;rw[Ak]at c0 c1 c3;rw[Ak]at c1;have n0:=IT c0.1;refine⟨hf,n0.1,n0.2,of_decide_eq_true c1.1,of_decide_eq_true c3.1,J0 c1.2.1,λi hi=>?_,hw,wf⟩;have h:=AC.1 c1.2.2 i hi;rw[Ak]at h;have h:=h.1;unfold Bh at h;simp only[Ak]at h;have h:=h.2.2.2.2.2;unfold DP at h;rw[Ak]at h;exact⟨of_decide_eq_true h.1,Xy h.2⟩
def PM (B:Bk)(v:Wr)(i:Nat):Prop:=i<=B.on/\(∀j,j<i->P9 B.os v.kind v.name j<0)/\(∀j,i<=j->j<B.on->¬P9 B.os v.kind v.name j<0)
theorem TJ (x:Nat->Ob)(ki na:ByteArray)(i:Nat)(o:Ob)(hk:o.kind=ki)(hn:o.name=na):P9 x ki na i=D8 (x i) o:=by subst hk hn;exact bS x o i
def kZ (v:Wr):Ob:=⟨v.kind,v.name,0,0,v.text,false,0,λ_=>v.hold⟩
theorem iK{B:Bk}{v:Wr}(h:IR B v):∀i j,i<j->j<B.on->P9 B.os v.kind v.name j<0->P9 B.os v.kind v.name i<0:=λi j h1 h2 h3=>by rw[TJ B.os v.kind v.name j (kZ v) rfl rfl]at h3;rw[TJ B.os v.kind v.name i (kZ v) rfl rfl];exact(Hf _ _).2 (Fn (h.asc i j h1 h2) ((Hf _ _).1 h3))
theorem NQ{x:Nat->Ob}{a b:ByteArray}:∀{n:Nat},(∀i,i<n->¬((x i).kind=a/\(x i).name=b))->Jb x a b n=none
 |0,_=>rfl
 |n+1,h=>JP (NQ λi hi=>h i Zb) (h n Zb)
theorem PN (x:Nat->Ob)(ki na:ByteArray)(i:Nat):P9 x ki na i=0↔((x i).kind=ki/\(x i).name=na):=by rw[TJ x ki na i ⟨ki,na,0,0,ki,false,0,λ_=>ki⟩ rfl rfl,I9];exact⟨λh=>⟨DE h.1,DE h.2⟩,λh=>⟨congrArg _ h.1,congrArg _ h.2⟩⟩
theorem OS{B:Bk}{v:Wr}(h:IR B v){i:Nat}(hp:PM B v i):Jb B.os v.kind v.name B.on=if i<B.on/\P9 B.os v.kind v.name i=0 then some i else none:=by
 by_cases e:i<B.on/\P9 B.os v.kind v.name i=0
 .rw[if_pos e];have h1:Jb B.os v.kind v.name i=none:=NQ λj hj q=>by have:=hp.2.1 j hj;rw[(PN _ _ _ _).2 q]at this;omega
  exact Q8 (MN h1 ((PN _ _ _ _).1 e.2)) (Nat.succ_le_of_lt e.1)
 .rw[if_neg e];refine NQ λj hj q=>?_;have h0:=(PN _ _ _ _).2 q;rcases At j i with h1|h1;.have:=hp.2.1 j h1;omega
  .rcases At i j with h2|h2;.have h3:=hp.2.2 i Bg Zb;have h4:=h.asc i j h2 hj;rw[TJ B.os v.kind v.name i (kZ v) rfl rfl,Hf]at h3;refine h3 ?_;have e1:(B.os j).kind=(kZ v).kind:=q.1;have e2:(B.os j).name=(kZ v).name:=q.2;unfold CN at h4⊢;rw[e1,e2]at h4;exact h4
   .obtain rfl:i=j:=Zb;exact e ⟨hj,h0⟩
end Go.Proofs.YtofencldleijcaaGreat
namespace Go.Proofs.YtofencldleijcaaGreat
open Go.RowKit Go.Proofs.Tryz
structure JO (w:World)(D K:Nat)(v:Wr)(pl:Int)(fo:Bool):Prop where c0:w.cell? ⟨D,0,none⟩=some (.p K 0)c1:w.cell? ⟨D,1,none⟩=some (.i v.op)c2:w.cell? ⟨D,2,none⟩=some (.s v.kind)c3:w.cell? ⟨D,3,none⟩=some (.s v.name)c4:w.cell? ⟨D,4,none⟩=some (.i v.seen)c5:w.cell? ⟨D,5,none⟩=some (.s v.text)c6:w.cell? ⟨D,6,none⟩=some (.s v.hold)c7:w.cell? ⟨D,7,none⟩=some (.i pl)c8:w.cell? ⟨D,8,none⟩=some (.bool fo)
theorem JO.grow{w w':World}{D K:Nat}{v:Wr}{pl:Int}{fo:Bool}(h:JO w D K v pl fo)(hb:Below w.1.size w w')(hD:D<w.1.size):JO w' D K v pl fo:=⟨(hb.cell (p:=⟨D,0,none⟩) hD).trans h.c0,(hb.cell (p:=⟨D,1,none⟩) hD).trans h.c1,(hb.cell (p:=⟨D,2,none⟩) hD).trans h.c2,(hb.cell (p:=⟨D,3,none⟩) hD).trans h.c3,(hb.cell (p:=⟨D,4,none⟩) hD).trans h.c4,(hb.cell (p:=⟨D,5,none⟩) hD).trans h.c5,(hb.cell (p:=⟨D,6,none⟩) hD).trans h.c6,(hb.cell (p:=⟨D,7,none⟩) hD).trans h.c7,(hb.cell (p:=⟨D,8,none⟩) hD).trans h.c8⟩
theorem JO.fr{w w':World}{P:Nat->Prop}{D K:Nat}{v:Wr}{pl:Int}{fo:Bool}(h:JO w D K v pl fo)(hb:AB P w w')(hD:D<w.1.size)(hp:¬P D):JO w' D K v pl fo:=⟨(hb.cell (p:=⟨D,0,none⟩) hD hp).trans h.c0,(hb.cell (p:=⟨D,1,none⟩) hD hp).trans h.c1,(hb.cell (p:=⟨D,2,none⟩) hD hp).trans h.c2,(hb.cell (p:=⟨D,3,none⟩) hD hp).trans h.c3,(hb.cell (p:=⟨D,4,none⟩) hD hp).trans h.c4,(hb.cell (p:=⟨D,5,none⟩) hD hp).trans h.c5,(hb.cell (p:=⟨D,6,none⟩) hD hp).trans h.c6,(hb.cell (p:=⟨D,7,none⟩) hD hp).trans h.c7,(hb.cell (p:=⟨D,8,none⟩) hD hp).trans h.c8⟩
end Go.Proofs.YtofencldleijcaaGreat
