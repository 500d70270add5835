import Derived.Test.YtnnjcenacidceaaGreatPk15
import Derived.Test.YtnnjcenacidceaaGreatPk14
import Derived.Test.YtnnjcenacidceaaGreatPk12
import Derived.Deep.RegionWith
import Derived.Test.YtnnjcenacidceaaGreatPk02
import Derived.Shelf.Spec.SlicesGrow
import Derived.Laws.AppendOwnNone
set_option maxRecDepth 100000
set_option maxHeartbeats 2000000
namespace Go.Proofs.YtnnjcenacidceaaGreat
open Go.RowKit Go.Maps Go.Proofs.Tryz
theorem VN{h:Nat->Ch}{i n:Nat}(hi:i<n):∃i',LQ h (h i).ob.kind (h i).ob.name n=some i':=by induction n with
 |zero=>omega
 |succ n ih=>
  by_cases h2:(h n).ob.kind=(h i).ob.kind/\(h n).ob.name=(h i).ob.name;.exact⟨n,On h2⟩
  .rw[NN h2];rcases Aw i n with h3|h3;.exact ih h3
   .have:i=n:=Za;subst this;exact absurd ⟨rfl,rfl⟩ h2
def agO (floor:Int)(x:Nat->Ob)(n:Nat)(h:Nat->Ch)(i:Nat):Bool:=match LQ h (x i).kind (x i).name n with|none=>decide ((x i).ver<=floor)|some j=>!(h j).gone&&BR (x i) (h j).ob
def agH (m:Nat)(x:Nat->Ob)(n:Nat)(h:Nat->Ch)(i:Nat):Bool:=!decide (LQ h (h i).ob.kind (h i).ob.name n=some i)||((h i).gone||(Nq x (h i).ob.kind (h i).ob.name m).isSome)
def QO (floor:Int)(m:Nat)(x:Nat->Ob)(n:Nat)(h:Nat->Ch):Bool:=Bg (agO floor x n h) m&&Bg (agH m x n h) n
theorem WO{P:Prop}(h:P:=by
  rw[hg]at r1;clear hg;go_wp2_with (at_lookup;go_must(refine wpList_lookup_own_int _ rfl _ _ 93 rfl 95 3 .i64 Cj underlying93 underlying3 (NE _) (w.1.size+1) n D rfl hD2 _ _ rfl hky ?_;intro c2 hat hwc;have hci:c2=(i':Int):=PG (hat.symm.trans V6);subst hci;clear hat hwc));go_roundw;case rel=>exact⟨i'+1,Za,by go_num,hB2,hE2,λj hj=>(by
   rcases Aw j i' with h3|h3;.exact HA j h3
   .have:j=i':=Za;subst this;exact HN)⟩
  case measure=>simp[intOf];omega):P:=h
theorem jM{P:Prop}(h:P:=by
  have HN:=Aj (show agH m x n h k=true by unfold agH;rw[SX.out];simp[hii]);have hd:((i':Int)==(k:Int))=false:=Zd;go_wp2_with (at_lookup;go_must(refine wpList_lookup_own_int _ rfl _ _ 93 rfl 95 3 .i64 Cj underlying93 underlying3 (NE _) (w.1.size+1) n D rfl hD2 _ _ rfl hky ?_;intro c2 hat hwc;have hci:c2=(i':Int):=PG (hat.symm.trans V6);subst hci;clear hat hwc));go_roundw;case rel=>exact⟨k+1,Za,by go_num,hB2,hE2,λj hj=>(by
   rcases Aw j k with h3|h3;.exact HA j h3
   .have:j=k:=Za;subst this;exact HN)⟩
  case measure=>simp[intOf];omega):P:=h
theorem eK{P:Prop}(h:P:=by
  have hne:Nonempty (GW w1):=⟨⟨_,Aq _ _⟩⟩;refine AI Ze Ze ?_;repeat(go_big_quiet_step((go_at_call 68;go_must(exact Bm (RX (x k) (h j).ob ah ah' ch ch' _ lo hi (hhu _) hxh hjh (hu1 _) (hu2 _))))))
  refine wpQuiet_nil ?_;rintro w2 ⟨u,hu⟩;have hw2:Below w1.1.size w1 w2:=hu▸u.prop;clear hu u hne;have hB2:=hB1.trans (hw2.mono Za);clear hown1 hhu hu1 hu2 z3 x0 x1 x2 x3 x4 x5 x6 y1 y2 y3 y4 y5 y6 y7 y8 p0 p1 p2 p3 p4 p5 p6 o1 o3;go_wp2;go_ret;exact⟨Az HE.symm,(An _ _).trans (hB2.mono Za)⟩):P:=h
theorem dF{P:Prop}(h:P:=by
  go_wp2;go_roundw;case rel=>exact⟨k+1,Za,by go_num,hB2,hown2,λj hj=>(by
   rcases Aw j k with h3|h3;.exact HA j h3
   .have:j=k:=Za;subst this;exact HN)⟩
  case measure=>simp[intOf];omega):P:=h
theorem Tr (now floor:Int)(m n:Nat)(x:Nat->Ob)(h:Nat->Ch)(a1 a2 a3:OA)(c1 c2 n3 c3:Nat)(w:World)(lo hi:Nat)(hhi:hi<=w.1.size)(hm:(m:Int)<=1099511627776)(hl:(n:Int)<=1099511627776)(hx:∀i,i<m->Ec (x i))(hf:∀i,i<n->Ec (h i).ob)(hco:BS w lo hi a1 m x)(hc:CB w lo hi a2 n h):Calls prog 35 #[.agg #[.i now,.i floor,.l a1 m c1,.l a2 n c2,.l a3 n3 c3]] w λe w'=>e=.returned (.bool (QO floor m x n h))/\Below w.1.size w w':=by
 have hcA:=λo=>hc.below (An w o) hhi;go_enter func35,ntmps35;go_wp2_with fail;refine(UV n h a2 c2 _ lo hi Zd hl hf (hcA _)).mono ?_;rintro e w0 ⟨D,rfl,hown0,htold,hb0⟩;simp only[Av]at hown0 hb0⊢;have k2:w0.cell? ⟨w.1.size,2,none⟩=some (.slice a1 m c1):=(hb0.cell (p:=⟨w.1.size,2,none⟩) Zg).trans (Al _ _ _ _);have sZ:=Aj hown0;have vQ:=Aj htold;clear hown0 htold hcA;go_wp2;go_loopw[19](λi wr=>∃k:Nat,k<=m/\i=.i k/\Below (w.1.size+1) (w.alloc (.cells #[.i now,.i floor,.l a1 m c1,.l a2 n c2,.l a3 n3 c3] 27)) wr/\wr.ownsMap prog 95 (plainElem prog 3) (w.1.size+1) n D/\∀j,j<k->agO floor x n h j=true)(λi _=>m-(intOf i).toNat);case atStart=>exact⟨0,At _,rfl,hb0,sZ,λj hj=>absurd hj (Ai _)⟩
 case round=>
  obtain⟨k,hk,rfl,hb,hown,hall⟩:=hrel;have hBw:Below w.1.size w wr:=(An _ _).trans (hb.mono Za);have hsz:w.1.size+1<=wr.1.size:=by have:=hb.size;simpa using this
  have hlt:=hown.lt;clear k2 sZ hb0;by_cases hkn:k<m
  .obtain⟨b,off,ah,ch,rfl,hlo,hbh,hcx,hsx⟩:=hco k hkn;have hxk:=hx k hkn;have hxh:((x k).hn:Int)<=140737488355328:=by have:=hxk.h;omega
   have hsk:(x k).kind.size<=maxLen:=by unfold maxLen;have:=hxk.k;omega
   have hsn:(x k).name.size<=maxLen:=by unfold maxLen;have:=hxk.n;omega
   obtain⟨d0,d1,d2,d3,d4,d5,d6⟩:=hcx.below hBw Za;have HS:=Aj hsx;have HC:=Aj hc;have HF:=Aj hf;have HA:=Aj hall;have hky:=Uz (x k).kind (x k).name hsk hsn;have N8:=Aj hown;clear hc hf hco hx hcx hsx hall hown;cases hfd:LQ h (x k).kind (x k).name n with
   |none=>
    have hhas:=(vQ _ _ hsk hsn).2 hfd;have HL:=Aj (show agO floor x n h k=decide ((x k).ver<=floor)by unfold agO;rw[hfd]);clear hfd;go_wp2_with fail;refine(BU (x k) ah ch _).mono ?_;rintro e w1 ⟨rfl,hb1⟩;have hown1:=Aj (BG (N8.alloc _) hb1 Zd);have hB1:Below (w.1.size+1) (w.alloc (.cells #[.i now,.i floor,.l (some ⟨b,off,none⟩) m c1,.l a2 n c2,.l a3 n3 c3] 27)) w1:=(hb.alloc hsz (.cells (vO (x k) ah ch) 51)).trans (hb1.mono Zd);have hz1:wr.1.size<w1.1.size:=by have:=hb1.size;simp at this;omega
    have p0:=Au hb1 0;have p1:=Au hb1 1;have p2:=Au hb1 2;have p3:=Au hb1 3;have p4:=Au hb1 4;have p5:=Au hb1 5;have p6:=Au hb1 6;simp only[Ag,Af,Ae]at p0 p1 p2 p3 p4 p5 p6;have o1:=Au YO 1;have o3:=Au YO 3;simp only[Ag,Af,Ae]at o1 o3;clear hb1 d0 d1 d2 d3 d4 d5 d6 N8;by_cases hv:(x k).ver<=floor
    .have HN:=Aj (show agO floor x n h k=true by rw[HL.out];exact decide_eq_true hv);have hd:decide (floor<(x k).ver)=false:=decide_eq_false Za;go_wp2_with (at_lookup;go_must(refine wpList_lookup_own_ok_int _ rfl _ _ 93 rfl 95 3 .i64 Cj underlying93 underlying3 (NE _) (w.1.size+1) n D rfl hown1 _ _ rfl hky ?_;intro c hat hwc;clear hat hwc));have hne:Nonempty (GW w1):=⟨⟨_,Aq _ _⟩⟩;refine AI Ze Ze ?_;repeat(go_big_quiet_step(fail))
     refine wpQuiet_nil ?_;rintro w2 ⟨u,hu⟩;have hw2:Below w1.1.size w1 w2:=hu▸u.prop;clear hu u hne;have hB2:=hB1.trans (hw2.mono Za);have hown2:=Aj (BG hown1 hw2 hown1.lt);clear hown1 p0 p1 p2 p3 p4 p5 p6 o1 o3;exact dF
    .have HE:=Aj (show QO floor m x n h=false by unfold QO;rw[A9 hkn (HL.trans (decide_eq_false hv))];rfl);have hd:decide (floor<(x k).ver)=true:=decide_eq_true Za;go_wp2_with (at_lookup;go_must(refine wpList_lookup_own_ok_int _ rfl _ _ 93 rfl 95 3 .i64 Cj underlying93 underlying3 (NE _) (w.1.size+1) n D rfl hown1 _ _ rfl hky ?_;intro c hat hwc;clear hat hwc));go_ret;exact⟨Az HE.symm,(An _ _).trans (hB1.mono Za)⟩
   |some j=>
    obtain⟨hhas,hatk⟩:=(vQ _ _ hsk hsn).1 j hfd;have hjn:=(Mi hfd).1;have HL:=Aj (show agO floor x n h k=(!(h j).gone&&BR (x k) (h j).ob)by unfold agO;rw[hfd]);have V6:=Aj hatk;clear hfd hatk;obtain⟨b',off',ah',ch',rfl,hlo',hbh',hcy,hsy⟩:=HC j hjn;have hjh:((h j).ob.hn:Int)<=140737488355328:=by have:=(HF j hjn).h;omega
    have wP:=Aj hsy;clear hsy;have hjz:(j:Int)<n:=Za;go_wp2_with fail;refine(BU (x k) ah ch _).mono ?_;rintro e w1 ⟨rfl,hb1⟩;have hown1:=Aj (BG (N8.alloc _) hb1 Zd);have hB1:Below (w.1.size+1) (w.alloc (.cells #[.i now,.i floor,.l (some ⟨b,off,none⟩) m c1,.l (some ⟨b',off',none⟩) n c2,.l a3 n3 c3] 27)) w1:=(hb.alloc hsz (.cells (vO (x k) ah ch) 51)).trans (hb1.mono Zd);have hz1:wr.1.size<w1.1.size:=by have:=hb1.size;simp at this;omega
    have p0:=Au hb1 0;have p1:=Au hb1 1;have p2:=Au hb1 2;have p3:=Au hb1 3;have p4:=Au hb1 4;have p5:=Au hb1 5;have p6:=Au hb1 6;simp only[Ag,Af,Ae]at p0 p1 p2 p3 p4 p5 p6;have o1:=Au YO 1;have o3:=Au YO 3;simp only[Ag,Af,Ae]at o1 o3;clear hb1 d0 d1 d2 d3 d4 d5 d6 N8;go_wp2_with (at_lookup;go_must(refine wpList_lookup_own_ok_int _ rfl _ _ 93 rfl 95 3 .i64 Cj underlying93 underlying3 (NE _) (w.1.size+1) n D rfl hown1 _ _ rfl hky ?_;intro c hat hwc;have hci:c=(j:Int):=PG (hat.symm.trans V6);subst hci;clear hat hwc));have hBw1:Below w.1.size w w1:=(An _ _).trans (hB1.mono Za);obtain⟨f0,f1,f2,f3,f4,f5,f6,f7,f8⟩:=hcy.below hBw1 Za;have hhw:hi<=w1.1.size:=Za;have y2:=Ak f2 Zz;have y3:=Ak f3 Zz;have y4:=Ak f4 Zz;have y5:=Ak f5 Zz;have y6:=Ak f6 Zz;have y7:=Ak f7 Zz;have y8:=Ak f8 Zz;have x0:=Ak p0 hz1;have x1:=Ak p1 hz1;have x2:=Ak p2 hz1;have x3:=Ak p3 hz1;have x4:=Ak p4 hz1;have x5:=Ak p5 hz1;have x6:=Ak p6 hz1;have z3:=Ak o3 Zg;have hhu:∀u:GW w1,hi<=u.val.1.size:=λu=>AS hhw u.prop.size;have hu1:∀u:GW w1,AD u.val lo hi ah (x k).hn (x k).hs:=λu=>HS.below (hBw1.trans (u.prop.mono Za)) hhi;have hu2:∀u:GW w1,AD u.val lo hi ah' (h j).ob.hn (h j).ob.hs:=λu=>wP.below (hBw1.trans (u.prop.mono Za)) hhi;cases hg:(h j).gone with
    |true=>have HE:=Aj (show QO floor m x n h=false by unfold QO;rw[A9 hkn (HL.trans (by rw[hg];rfl))];rfl);rw[hg]at f1;have y1:=Ak f1 Zz;clear hg f0 f1 f2 f3 f4 f5 f6 f7 f8 hcy;exact eK
    |false=>rw[hg]at f1;have y1:=Ak f1 Zz;have Nd:=Aj (show agO floor x n h k=BR (x k) (h j).ob by rw[HL.out,hg];rfl);clear hg f0 f1 f2 f3 f4 f5 f6 f7 f8 hcy;cases hsm:BR (x k) (h j).ob with
     |false=>have HE:=Aj (show QO floor m x n h=false by unfold QO;rw[A9 hkn (Nd.trans hsm)];rfl);exact eK
     |true=>
      have HN:=Aj (Nd.trans hsm);have hne:Nonempty (GW w1):=⟨⟨_,Aq _ _⟩⟩;refine AI Ze Ze ?_;repeat(go_big_quiet_step((go_at_call 68;go_must(exact Bm (RX (x k) (h j).ob ah ah' ch ch' _ lo hi (hhu _) hxh hjh (hu1 _) (hu2 _))))))
      refine wpQuiet_nil ?_;rintro w2 ⟨u,hu⟩;have hw2:Below w1.1.size w1 w2:=hu▸u.prop;clear hu u hne;have hB2:=hB1.trans (hw2.mono Za);have hown2:=Aj (BG hown1 hw2 hown1.lt);clear hown1 hhu hu1 hu2 z3 x0 x1 x2 x3 x4 x5 x6 y1 y2 y3 y4 y5 y6 y7 y8 p0 p1 p2 p3 p4 p5 p6 o1 o3;exact dF
  .have:m=k:=Za;subst this;have HO:=Aj (show Bg (agO floor x n h) m=true from AV.2 hall);have o2:=Au Zr 2;have o3:=Au Zr 3;simp only[Ag,Af,Ae]at o2 o3;have HD:=Aj hown;clear hall hown;go_wp2_with fail;refine(Wo m x a1 c1 wr lo hi Za hm hx (hco.below hBw hhi)).mono ?_;rintro e wp ⟨E,rfl,hownE,htoldE,hbp⟩;have xU:=Aj hownE;have x9:=Aj htoldE;have q3:=(hbp.cell (p:=⟨w.1.size,3,none⟩) Zg).trans o3;clear hownE htoldE o2 o3 hx hco;obtain⟨W,hW⟩:∃W,W=wr:=⟨wr,rfl⟩;subst hW;go_wp2;go_loopw[66](λi wq=>∃k:Nat,k<=n/\i=.i k/\Below W.1.size W wq/\wq.ownsMap prog 95 (plainElem prog 3) W.1.size m E/\∀j,j<k->agH m x n h j=true)(λi _=>n-(intOf i).toNat);case atStart=>exact⟨0,At _,rfl,hbp,xU,λj hj=>absurd hj (Ai _)⟩
   case round=>
    obtain⟨k,hk2,rfl,hb2,hownE,hall⟩:=hrel;have hBq:Below w.1.size w wr:=hBw.trans (hb2.mono hBw.size);have hltE:=hownE.lt;clear q3 xU hbp;by_cases hkn2:k<n
    .obtain⟨b,off,ah,ch,rfl,hlo,hbh,hcx,hsx⟩:=hc k hkn2;have hfk:=hf k hkn2;have hsk:(h k).ob.kind.size<=maxLen:=by unfold maxLen;have:=hfk.k;omega
     have hsn:(h k).ob.name.size<=maxLen:=by unfold maxLen;have:=hfk.n;omega
     obtain⟨d0,d1,d2,d3,d4,d5,d6,d7,d8⟩:=hcx.below hBq Za;have hky:=Uz (h k).ob.kind (h k).ob.name hsk hsn;obtain⟨i',hli⟩:=VN (h:=h) hkn2;have SX:=Aj hli;have hin:=(Mi hli).1;have V6:=Aj ((vQ _ _ hsk hsn).1 i' hli).2;have HA:=Aj hall;have xQ:=Aj hownE;clear hli hc hf hcx hsx hall hownE hb;go_wp2_with fail;refine(BU (h k).ob ah ch _).mono ?_;rintro e w1 ⟨rfl,hb1⟩;have hE1:=Aj (BG (xQ.alloc _) hb1 Zd);have hB1:Below W.1.size W w1:=(hb2.alloc Za _).trans (hb1.mono Zd);have hz1:wr.1.size<w1.1.size:=by have:=hb1.size;simp at this;omega
     have p0:=Au hb1 0;have p1:=Au hb1 1;have p2:=Au hb1 2;have p3:=Au hb1 3;have p4:=Au hb1 4;have p5:=Au hb1 5;have p6:=Au hb1 6;have p7:=Au hb1 7;have p8:=Au hb1 8;simp only[Ag,Af,Ae]at p0 p1 p2 p3 p4 p5 p6 p7 p8;clear hb1 d0 d1 d2 d3 d4 d5 d6 d7 d8 xQ;cases hfn:Nq x (h k).ob.kind (h k).ob.name m with
     |none=>
      have hhas:=(x9 _ _ hsk hsn).2 hfn;have wN:=Aj hfn;clear hfn;go_wp2_with (at_lookup;go_must(refine wpList_lookup_own_ok_int _ rfl _ _ 93 rfl 95 3 .i64 Cj underlying93 underlying3 (NE _) W.1.size m E rfl hE1 _ _ rfl hky ?_;intro c hat hwc;clear hat hwc));refine(BU (h k).ob ah ch _).mono ?_;rintro e w2 ⟨rfl,hb22⟩;have hB2:Below W.1.size W w2:=hB1.trans (hb22.mono Za);have hE2:=Aj (BG hE1 hb22 Za);have hD2:=Aj (BG HD hB2 Za);have r1:=(hb22.cell (p:=⟨wr.1.size,1,none⟩) hz1).trans p1;clear hb22 p0 p1 p2 p3 p4 p5 p6 p7 p8 hE1;by_cases hii:i'=k;case neg=>exact jM
      subst hii;cases hg:(h i').gone with
      |true=>have HN:=Aj (show agH m x n h i'=true by unfold agH;rw[SX.out,hg];simp);exact WO
      |false=>have HE:=Aj (show QO floor m x n h=false by unfold QO;rw[A9 hkn2 (show agH m x n h i'=false by unfold agH;rw[SX.out,hg,wN.out];simp)];simp);rw[hg]at r1;clear hg;go_wp2_with (at_lookup;go_must(refine wpList_lookup_own_int _ rfl _ _ 93 rfl 95 3 .i64 Cj underlying93 underlying3 (NE _) (w.1.size+1) n D rfl hD2 _ _ rfl hky ?_;intro c2 hat hwc;have hci:c2=(i':Int):=PG (hat.symm.trans V6);subst hci;clear hat hwc));go_ret;exact⟨Az HE.symm,hBw.trans (hB2.mono hBw.size)⟩
     |some g=>
      have hhas:=((x9 _ _ hsk hsn).1 g hfn).1;have wN:=Aj hfn;clear hfn;go_wp2_with (at_lookup;go_must(refine wpList_lookup_own_ok_int _ rfl _ _ 93 rfl 95 3 .i64 Cj underlying93 underlying3 (NE _) W.1.size m E rfl hE1 _ _ rfl hky ?_;intro c hat hwc;clear hat hwc));refine(BU (h k).ob ah ch _).mono ?_;rintro e w2 ⟨rfl,hb22⟩;have hB2:Below W.1.size W w2:=hB1.trans (hb22.mono Za);have hE2:=Aj (BG hE1 hb22 Za);have hD2:=Aj (BG HD hB2 Za);have r1:=(hb22.cell (p:=⟨wr.1.size,1,none⟩) hz1).trans p1;clear hb22 p0 p1 p2 p3 p4 p5 p6 p7 p8 hE1;by_cases hii:i'=k;case neg=>exact jM
      subst hii;cases hg:(h i').gone with
      |true=>have HN:=Aj (show agH m x n h i'=true by unfold agH;rw[SX.out,hg];simp);exact WO
      |false=>have HN:=Aj (show agH m x n h i'=true by unfold agH;rw[SX.out,hg,wN.out];simp);exact WO
    .have HE:=Aj (show QO floor m x n h=true by unfold QO;rw[HO.out,AV.2 (λi hi=>hall i Za)];rfl);clear hc hf hall hownE;go_wp2;go_ret;exact⟨Az HE.symm,hBq⟩
end Go.Proofs.YtnnjcenacidceaaGreat
namespace Go.Proofs.YtnnjcenacidceaaGreat
open Go.RowKit Go.Maps Go.Proofs.Tryz
def Me (B:Bk):Nat->Bool
 |0=>No B.now B.floor
 |1=>Fg B.on B.os B.now
 |2=>EV B.on B.os
 |3=>KW B.now B.floor B.hn B.hs
 |4=>Bg (L6 B.floor B.hs) B.hn
 |5=>QO B.floor B.on B.os B.hn B.hs
 |_=>LS B.tn B.ts B.now
theorem O8{now floor:Int}(h:No now floor=true):0<=floor/\floor<=now/\now<=1000000:=by unfold No EX at h;simp at h;omega
theorem OW{P:Prop}(h:P:=by go_ret;exact⟨Az HE.symm,hBw.trans (hb2.mono Za)⟩):P:=h
theorem Fh (B:Bk)(a1 a2 a3:OA)(c1 c2 c3:Nat)(w:World)(lo hi:Nat)(hhi:hi<=w.1.size)(hfit:BQ B)(hin:BF w lo hi B a1 a2 a3):Calls prog 10 #[.agg (vB B a1 a2 a3 c1 c2 c3)] w λe w'=>e=.returned (.bool (Bg (Me B) 7))/\Below w.1.size w w':=by
 obtain⟨f1,f2,f3,f4,f5,f6⟩:=hfit;go_enter func10,ntmps10;go_wp2_with fail;go_loopw[9](λi wr=>∃k:Nat,k<=7/\i=.i k/\Below (w.1.size+1+1) ((w.alloc (.cells (vB B a1 a2 a3 c1 c2 c3) 27)).alloc (.cells #[.func (.func 30) #[] #[],.func (.func 31) #[] #[],.func (.func 32) #[] #[],.func (.func 33) #[] #[],.func (.func 34) #[] #[],.func (.func 35) #[] #[],.func (.func 36) #[] #[]] 32)) wr/\∀j,j<k->Me B j=true)(λi _=>7-(intOf i).toNat);case atStart=>exact⟨0,At _,rfl,Aq _ _,λj hj=>absurd hj (Ai _)⟩
 case round=>
  obtain⟨k,hk,rfl,hb,hall⟩:=hrel;have hBw:Below w.1.size w wr:=((An _ _).alloc Zc _).trans (hb.mono Za);have hsz:w.1.size+2<=wr.1.size:=by have:=hb.size;simpa using this
  have hhw:hi<=wr.1.size:=Za;have HI:=Aj (show BF wr lo hi B a1 a2 a3 from⟨hin.o.below hBw hhi,hin.h.below hBw hhi,hin.t.below hBw hhi⟩);have HA:=Aj hall;have e0:wr.cell? ⟨w.1.size,0,none⟩=some (.i B.now):=(hb.cell (p:=⟨w.1.size,0,none⟩) Zg).trans Zc;have e1:wr.cell? ⟨w.1.size,1,none⟩=some (.i B.floor):=(hb.cell (p:=⟨w.1.size,1,none⟩) Zg).trans Zc;have e2:wr.cell? ⟨w.1.size,2,none⟩=some (.slice a1 B.on c1):=(hb.cell (p:=⟨w.1.size,2,none⟩) Zg).trans Zc;have e3:wr.cell? ⟨w.1.size,3,none⟩=some (.slice a2 B.hn c2):=(hb.cell (p:=⟨w.1.size,3,none⟩) Zg).trans Zc;have e4:wr.cell? ⟨w.1.size,4,none⟩=some (.slice a3 B.tn c3):=(hb.cell (p:=⟨w.1.size,4,none⟩) Zg).trans Zc;clear hin;rcases(show k=0\/k=1\/k=2\/k=3\/k=4\/k=5\/k=6\/k=7 by omega)with rfl|rfl|rfl|rfl|rfl|rfl|rfl|rfl;all_goals clear hall
  iterate 1
   .have g:wr.cell? ⟨w.1.size+1,0,none⟩=some (.func (.func 30) #[] #[]):=(hb.cell (p:=⟨w.1.size+1,0,none⟩) Zo).trans Zc;cases hp:Me B 0 with
    |false=>have HE:=Aj (show Bg (Me B) 7=false from A9 (show 0<7 by omega) hp);have hp':No B.now B.floor=false:=hp;go_wp2_with (go_at_call 30;refine(Qq B.now B.floor a1 a2 a3 B.on c1 B.hn c2 B.tn c3 wr).mono ?_;rintro e w2 ⟨rfl,hb2⟩;rw[hp']);exact OW
    |true=>
     have HP:=Aj hp;have hp':No B.now B.floor=true:=hp;go_wp2_with (go_at_call 30;refine(Qq B.now B.floor a1 a2 a3 B.on c1 B.hn c2 B.tn c3 wr).mono ?_;rintro e w2 ⟨rfl,hb2⟩;rw[hp']);go_roundw;case rel=>exact⟨1,Za,by go_num,hb.trans (hb2.mono Za),λj hj=>(by
      rcases Aw j 0 with h3|h3;.exact HA j h3
      .have:j=0:=Za;subst this;exact HP)⟩
     case measure=>simp[intOf]
   .have g:wr.cell? ⟨w.1.size+1,1,none⟩=some (.func (.func 31) #[] #[]):=(hb.cell (p:=⟨w.1.size+1,1,none⟩) Zo).trans Zc;cases hp:Me B 1 with
    |false=>have HE:=Aj (show Bg (Me B) 7=false from A9 (show 1<7 by omega) hp);have hp':Fg B.on B.os B.now=false:=hp;go_wp2_with (go_at_call 31;refine(Qt B.now B.floor B.on B.os a1 a2 a3 c1 B.hn c2 B.tn c3 wr lo hi hhw f1 f4 HI.o).mono ?_;rintro e w2 ⟨rfl,hb2⟩;rw[hp']);exact OW
    |true=>
     have HP:=Aj hp;have hp':Fg B.on B.os B.now=true:=hp;go_wp2_with (go_at_call 31;refine(Qt B.now B.floor B.on B.os a1 a2 a3 c1 B.hn c2 B.tn c3 wr lo hi hhw f1 f4 HI.o).mono ?_;rintro e w2 ⟨rfl,hb2⟩;rw[hp']);go_roundw;case rel=>exact⟨2,Za,by go_num,hb.trans (hb2.mono Za),λj hj=>(by
      rcases Aw j 1 with h3|h3;.exact HA j h3
      .have:j=1:=Za;subst this;exact HP)⟩
     case measure=>simp[intOf]
   .have g:wr.cell? ⟨w.1.size+1,2,none⟩=some (.func (.func 32) #[] #[]):=(hb.cell (p:=⟨w.1.size+1,2,none⟩) Zo).trans Zc;cases hp:Me B 2 with
    |false=>have HE:=Aj (show Bg (Me B) 7=false from A9 (show 2<7 by omega) hp);have hp':EV B.on B.os=false:=hp;go_wp2_with (go_at_call 32;refine(Qs B.now B.floor B.on B.os a1 a2 a3 c1 B.hn c2 B.tn c3 wr lo hi hhw f1 f4 HI.o).mono ?_;rintro e w2 ⟨rfl,hb2⟩;rw[hp']);exact OW
    |true=>
     have HP:=Aj hp;have hp':EV B.on B.os=true:=hp;go_wp2_with (go_at_call 32;refine(Qs B.now B.floor B.on B.os a1 a2 a3 c1 B.hn c2 B.tn c3 wr lo hi hhw f1 f4 HI.o).mono ?_;rintro e w2 ⟨rfl,hb2⟩;rw[hp']);go_roundw;case rel=>exact⟨3,Za,by go_num,hb.trans (hb2.mono Za),λj hj=>(by
      rcases Aw j 2 with h3|h3;.exact HA j h3
      .have:j=2:=Za;subst this;exact HP)⟩
     case measure=>simp[intOf]
   .have g:wr.cell? ⟨w.1.size+1,3,none⟩=some (.func (.func 33) #[] #[]):=(hb.cell (p:=⟨w.1.size+1,3,none⟩) Zo).trans Zc;have hnn:=HA.out 0 Za;obtain⟨hn1,hn2,hn3⟩:=O8 hnn;clear hnn;cases hp:Me B 3 with
    |false=>have HE:=Aj (show Bg (Me B) 7=false from A9 (show 3<7 by omega) hp);have hp':KW B.now B.floor B.hn B.hs=false:=hp;go_wp2_with (go_at_call 33;refine(PF B.now B.floor B.hn B.hs a1 a2 a3 B.on c1 c2 B.tn c3 wr lo hi hhw f2 hn1 hn2 hn3 f5 HI.h).mono ?_;rintro e w2 ⟨rfl,hb2⟩;rw[hp']);exact OW
    |true=>
     have HP:=Aj hp;have hp':KW B.now B.floor B.hn B.hs=true:=hp;go_wp2_with (go_at_call 33;refine(PF B.now B.floor B.hn B.hs a1 a2 a3 B.on c1 c2 B.tn c3 wr lo hi hhw f2 hn1 hn2 hn3 f5 HI.h).mono ?_;rintro e w2 ⟨rfl,hb2⟩;rw[hp']);go_roundw;case rel=>exact⟨4,Za,by go_num,hb.trans (hb2.mono Za),λj hj=>(by
      rcases Aw j 3 with h3|h3;.exact HA j h3
      .have:j=3:=Za;subst this;exact HP)⟩
     case measure=>simp[intOf]
   .have g:wr.cell? ⟨w.1.size+1,4,none⟩=some (.func (.func 34) #[] #[]):=(hb.cell (p:=⟨w.1.size+1,4,none⟩) Zo).trans Zc;cases hp:Me B 4 with
    |false=>have HE:=Aj (show Bg (Me B) 7=false from A9 (show 4<7 by omega) hp);have hp':Bg (L6 B.floor B.hs) B.hn=false:=hp;go_wp2_with (go_at_call 34;refine(O7 B.now B.floor B.hn B.hs a1 a2 a3 B.on c1 c2 B.tn c3 wr lo hi hhw f2 f5 HI.h).mono ?_;rintro e w2 ⟨rfl,hb2⟩;rw[hp']);exact OW
    |true=>
     have HP:=Aj hp;have hp':Bg (L6 B.floor B.hs) B.hn=true:=hp;go_wp2_with (go_at_call 34;refine(O7 B.now B.floor B.hn B.hs a1 a2 a3 B.on c1 c2 B.tn c3 wr lo hi hhw f2 f5 HI.h).mono ?_;rintro e w2 ⟨rfl,hb2⟩;rw[hp']);go_roundw;case rel=>exact⟨5,Za,by go_num,hb.trans (hb2.mono Za),λj hj=>(by
      rcases Aw j 4 with h3|h3;.exact HA j h3
      .have:j=4:=Za;subst this;exact HP)⟩
     case measure=>simp[intOf]
   .have g:wr.cell? ⟨w.1.size+1,5,none⟩=some (.func (.func 35) #[] #[]):=(hb.cell (p:=⟨w.1.size+1,5,none⟩) Zo).trans Zc;cases hp:Me B 5 with
    |false=>have HE:=Aj (show Bg (Me B) 7=false from A9 (show 5<7 by omega) hp);have hp':QO B.floor B.on B.os B.hn B.hs=false:=hp;go_wp2_with (go_at_call 35;refine(Tr B.now B.floor B.on B.hn B.os B.hs a1 a2 a3 c1 c2 B.tn c3 wr lo hi hhw f1 f2 f4 f5 HI.o HI.h).mono ?_;rintro e w2 ⟨rfl,hb2⟩;rw[hp']);exact OW
    |true=>
     have HP:=Aj hp;have hp':QO B.floor B.on B.os B.hn B.hs=true:=hp;go_wp2_with (go_at_call 35;refine(Tr B.now B.floor B.on B.hn B.os B.hs a1 a2 a3 c1 c2 B.tn c3 wr lo hi hhw f1 f2 f4 f5 HI.o HI.h).mono ?_;rintro e w2 ⟨rfl,hb2⟩;rw[hp']);go_roundw;case rel=>exact⟨6,Za,by go_num,hb.trans (hb2.mono Za),λj hj=>(by
      rcases Aw j 5 with h3|h3;.exact HA j h3
      .have:j=5:=Za;subst this;exact HP)⟩
     case measure=>simp[intOf]
   .have g:wr.cell? ⟨w.1.size+1,6,none⟩=some (.func (.func 36) #[] #[]):=(hb.cell (p:=⟨w.1.size+1,6,none⟩) Zo).trans Zc;cases hp:Me B 6 with
    |false=>have HE:=Aj (show Bg (Me B) 7=false from A9 (show 6<7 by omega) hp);have hp':LS B.tn B.ts B.now=false:=hp;go_wp2_with (go_at_call 36;refine(Qp B.now B.floor B.tn B.ts a1 a2 a3 B.on c1 B.hn c2 c3 wr lo hi hhw f3 f6 HI.t).mono ?_;rintro e w2 ⟨rfl,hb2⟩;rw[hp']);exact OW
    |true=>
     have HP:=Aj hp;have hp':LS B.tn B.ts B.now=true:=hp;go_wp2_with (go_at_call 36;refine(Qp B.now B.floor B.tn B.ts a1 a2 a3 B.on c1 B.hn c2 c3 wr lo hi hhw f3 f6 HI.t).mono ?_;rintro e w2 ⟨rfl,hb2⟩;rw[hp']);go_roundw;case rel=>exact⟨7,Za,by go_num,hb.trans (hb2.mono Za),λj hj=>(by
      rcases Aw j 6 with h3|h3;.exact HA j h3
      .have:j=6:=Za;subst this;exact HP)⟩
     case measure=>simp[intOf]
   .have HE:=Aj (show Bg (Me B) 7=true from AV.2 HA);go_wp2;go_ret;exact⟨Az HE.symm,hBw⟩
end Go.Proofs.YtnnjcenacidceaaGreat
namespace Go.Proofs.YtnnjcenacidceaaGreat
open Go.RowKit Go.Proofs.Tryz
/-! what a write comes to -/
theorem UJ:∀a b:List UInt8,Op.bytesLess a b=false->¬a=b->Op.bytesLess b a=true
 |[],[],_,h=>absurd rfl h
 |[],_::_,h,_=>by simp[Op.bytesLess]at h
 |_::_,[],_,_=>rfl
 |x::a,y::b,h,hn=>by
  simp only[Op.bytesLess]at h⊢;by_cases e:x=y;.subst e;simp at h⊢;exact UJ a b h (λe=>hn (by rw[e]))
  .simp[e]at h;have e2:¬y=x:=λq=>e q.symm;simp[e2];have h1:¬x.toNat<y.toNat:=by intro hh;exact absurd (UInt8.lt_iff_toNat_lt.2 hh) (by simpa using h)
   have h2:¬x.toNat=y.toNat:=λq=>e (UInt8.toNat_inj.1 q);exact UInt8.lt_iff_toNat_lt.2 Za
theorem QX{a b:ByteArray}(h:K9 a b=false)(hn:¬a=b):K9 b a=true:=UJ _ _ h (λe=>hn (FQ e))
theorem OI{x y z:Ob}(h1:Fi x y=true)(h2:Fi y z=true):Fi x z=true:=by
 unfold Fi at h1 h2⊢;by_cases e1:x.kind.toList=y.kind.toList
 .by_cases e2:y.kind.toList=z.kind.toList
  .rw[if_pos e1]at h1;rw[if_pos e2]at h2;rw[if_pos (e1.trans e2)];exact Ni h1 h2
  .rw[if_neg e2]at h2;rw[if_neg (λe=>e2 (e1.symm.trans e))];unfold K9 at h2⊢;rw[e1];exact h2
 .rw[if_neg e1]at h1;by_cases e2:y.kind.toList=z.kind.toList;.rw[if_neg (λe=>e1 (e.trans e2.symm))];unfold K9 at h1⊢;rw[<-e2];exact h1
  .rw[if_neg e2]at h2;have h3:=Ni h1 h2;by_cases e3:x.kind.toList=z.kind.toList;.rw[L3 e3]at h3;cases h3
   .rw[if_neg e3];exact h3
def UY (n:Nat)(x:Nat->Ob):Prop:=∀i j,i<j->j<n->Fi (x i) (x j)=true
def MU (n:Nat)(s:Nat->ByteArray):Prop:=∀i j,i<j->j<n->K9 (s i) (s j)=true
theorem eV{n:Nat}{x:Nat->Ob}(h:Lw n x=true):UY n x:=by unfold Lw at h;rw[AV]at h;intro i j;induction j with
 |zero=>intro h1;omega
 |succ j ih=>
  intro h1 h2;have hj:=h (j+1) h2;simp at hj;rcases Aw i j with h3|h3;.exact OI (ih h3 Za) hj
  .obtain rfl:i=j:=Za;exact hj
theorem fF{n:Nat}{s:Nat->ByteArray}(h:SN n s=true):MU n s:=by rw[Nt,Am]at h;have h:=h.1;unfold Y0 at h;rw[AV]at h;intro i j;induction j with
 |zero=>intro h1;omega
 |succ j ih=>
  intro h1 h2;have hj:=h (j+1) h2;simp at hj;rcases Aw i j with h3|h3;.exact Ni (ih h3 Za) hj
  .obtain rfl:i=j:=Za;exact hj
def Ll (s:Nat->ByteArray)(a:ByteArray):Nat->Nat
 |0=>0
 |n+1=>if Ll s a n=n/\K9 (s n) a=true then n+1 else Ll s a n
theorem M2 (s:Nat->ByteArray)(a:ByteArray):∀n,Ll s a n<=n/\(∀j,j<Ll s a n->K9 (s j) a=true)/\(Ll s a n<n->K9 (s (Ll s a n)) a=false)
 |0=>⟨AG _,λj hj=>absurd hj (Ai _),λh=>absurd h (Ai _)⟩
 |n+1=>by
  obtain⟨h1,h2,h3⟩:=M2 s a n;unfold Ll;by_cases e:Ll s a n=n/\K9 (s n) a=true
  .rw[if_pos e];refine⟨AG _,λj hj=>?_,λh=>absurd h (AY _)⟩;rcases Aw j n with h|h;.exact h2 j Za
   .obtain rfl:j=n:=Za;exact e.2
  .rw[if_neg e];refine⟨Za,h2,λ_=>?_⟩;rcases Aw (Ll s a n) n with h|h;.exact h3 h
   .have e1:Ll s a n=n:=Za;rw[e1];cases hx:K9 (s n) a with
    |false=>rfl
    |true=>exact absurd ⟨e1,hx⟩ e
theorem Wp{s:Nat->ByteArray}{a:ByteArray}{n i:Nat}(hi:i<=n)(h1:∀j,j<i->K9 (s j) a=true)(h2:i<n->K9 (s i) a=false):Ll s a n=i:=by
 obtain⟨g1,g2,g3⟩:=M2 s a n;rcases LN (Ll s a n) i with h|h|h;.have e1:=h1 _ h;rw[g3 Za]at e1;cases e1
 .exact h
 .have e1:=g2 _ h;rw[h2 Za]at e1;cases e1
def QM (s:Nat->ByteArray)(k:Nat)(a:ByteArray):Nat->ByteArray:=λj=>if j<k then s j else if j=k then a else s (j-1)
def Ns (s:Nat->ByteArray)(k:Nat):Nat->ByteArray:=λj=>if j<k then s j else s (j+1)
theorem pL{n:Nat}{s:Nat->ByteArray}{a:ByteArray}(h:MU n s):Nl n s a=(decide (Ll s a n<n)&&decide (s (Ll s a n)=a)):=by
 obtain⟨g1,g2,g3⟩:=M2 s a n;by_cases e:Ll s a n<n/\s (Ll s a n)=a
 .rw[Su e.1 e.2];simp[e.1,e.2]
 .rw[XN (λi hi q=>e ?_)]
  .symm;rw[Bool.and_eq_false_iff];by_cases e1:Ll s a n<n;.exact AE (by simpa using λq=>e ⟨e1,q⟩)
   .exact AB (by simpa using e1)
  .have hr:Ll s a n=i:=by
    refine Wp (Nat.le_of_lt hi) (λj hj=>?_) (λ_=>?_);.rw[<-q];exact h j i hj hi
    .rw[q];exact L3 rfl
   rw[hr];exact⟨hi,q⟩
def BY (B:Bk)(v:Wr):Ob:=Cu B.os v.kind v.name B.on
def Ed (B:Bk)(v:Wr):Int:=if B4 B.os v.kind v.name B.on=decide (v.op=1)then 3 else if¬v.seen=0/\¬v.seen=(BY B v).ver then 4 else if(BY B v).ending=true/\¬v.op=5 then 5 else if v.op=1 then(if 100<=B.on then 7 else 0)else if v.op=4 then(if Nl (BY B v).hn (BY B v).hs v.hold=true then 6 else if 5<=(BY B v).hn then 7 else 0)else if v.op=5 then(if Nl (BY B v).hn (BY B v).hs v.hold=true then 0 else 6)else 0
def BN (B:Bk)(v:Wr):Int:=if Ed B v=0 then(if 1000000<=B.now then 8 else 0)else Ed B v
def U6 (B:Bk)(v:Wr):Int:=if Ed B v=4 then(BY B v).ver else 0
def M8 (B:Bk)(v:Wr)(ve:Int):Ob:=if v.op=1 then⟨v.kind,v.name,ve,B.now+1,v.text,false,if PP v.hold then 0 else 1,λ_=>v.hold⟩else if v.op=2 then⟨(BY B v).kind,(BY B v).name,ve,(BY B v).born,v.text,(BY B v).ending,(BY B v).hn,(BY B v).hs⟩else if v.op=3 then⟨(BY B v).kind,(BY B v).name,ve,(BY B v).born,(BY B v).text,true,(BY B v).hn,(BY B v).hs⟩else if v.op=4 then⟨(BY B v).kind,(BY B v).name,ve,(BY B v).born,(BY B v).text,(BY B v).ending,(BY B v).hn+1,QM (BY B v).hs (Ll (BY B v).hs v.hold (BY B v).hn) v.hold⟩else⟨(BY B v).kind,(BY B v).name,ve,(BY B v).born,(BY B v).text,(BY B v).ending,(BY B v).hn-1,Ns (BY B v).hs (Ll (BY B v).hs v.hold (BY B v).hn)⟩
def Cv (B:Bk)(v:Wr):Ob:=M8 B v (B.now+1)
def C7 (B:Bk)(v:Wr):Bool:=!C6 (Cv B v)
def Ef (B:Bk)(v:Wr):Ch:=⟨B.now+1,C7 B v,Cv B v⟩
def ME (B:Bk):Nat:=if B.hn=200 then 1 else 0
def tX (B:Bk)(c:Ch):Nat->Ch:=λi=>if i<B.hn-ME B then B.hs (i+ME B)else c
def Mj (B:Bk)(v:Wr):Bk:={now:=B.now+1,floor:=if B.hn=200 then(B.hs 0).ver else B.floor,on:=(KV B.on B.os (Cv B v) (C7 B v)).m,os:=(KV B.on B.os (Cv B v) (C7 B v)).y,hn:=B.hn-ME B+1,hs:=tX B (Ef B v),tn:=B.tn,ts:=B.ts}
structure Nj (B:Bk)(v:Wr):Prop where
 fit:BQ B
 now0:0<=B.now
 now1:B.now<=1000000
 on:B.on<=100
 hn:B.hn<=200
 asc:UY B.on B.os
 hold:∀i,i<B.on->(B.os i).hn<=5/\MU (B.os i).hn (B.os i).hs
 wr:LF v=true
 wf:Sy v
theorem WI{B:Bk}{v:Wr}(hf:BQ B)(hv:Bg (Me B) 7=true)(hw:LF v=true)(wf:Sy v):Nj B v:=by rw[AV]at hv;have c0:No B.now B.floor=true:=hv 0 Za;have c1:Fg B.on B.os B.now=true:=hv 1 Za;have c3:KW B.now B.floor B.hn B.hs=true:=hv 3 Za;unfold No at c0;unfold Fg at c1;unfold KW at c3;rw[Am]at c0 c1 c3;rw[Am]at c1;have n0:=M9 c0.1;refine⟨hf,n0.1,n0.2,of_decide_eq_true c1.1,of_decide_eq_true c3.1,eV c1.2.1,λi hi=>?_,hw,wf⟩;have h:=AV.1 c1.2.2 i hi;rw[Am]at h;have h:=h.1;unfold Bq at h;simp only[Am]at h;have h:=h.2.2.2.2.2;unfold Ew at h;rw[Am]at h;exact⟨of_decide_eq_true h.1,fF h.2⟩
def T2 (B:Bk)(v:Wr)(i:Nat):Prop:=i<=B.on/\(∀j,j<i->Uu B.os v.kind v.name j<0)/\(∀j,i<=j->j<B.on->¬Uu B.os v.kind v.name j<0)
theorem Ye (x:Nat->Ob)(ki na:ByteArray)(i:Nat)(o:Ob)(hk:o.kind=ki)(hn:o.name=na):Uu x ki na i=EU (x i) o:=by subst hk hn;exact lI x o i
def tG (v:Wr):Ob:=⟨v.kind,v.name,0,0,v.text,false,0,λ_=>v.hold⟩
theorem qG{B:Bk}{v:Wr}(h:Nj B v):∀i j,i<j->j<B.on->Uu B.os v.kind v.name j<0->Uu B.os v.kind v.name i<0:=λi j h1 h2 h3=>by rw[Ye B.os v.kind v.name j (tG v) rfl rfl]at h3;rw[Ye B.os v.kind v.name i (tG v) rfl rfl];exact(Mp _ _).2 (OI (h.asc i j h1 h2) ((Mp _ _).1 h3))
theorem R9{x:Nat->Ob}{a b:ByteArray}:∀{n:Nat},(∀i,i<n->¬((x i).kind=a/\(x i).name=b))->Nq x a b n=none
 |0,_=>rfl
 |n+1,h=>NZ (R9 λi hi=>h i Za) (h n Za)
theorem Ub (x:Nat->Ob)(ki na:ByteArray)(i:Nat):Uu x ki na i=0↔((x i).kind=ki/\(x i).name=na):=by rw[Ye x ki na i ⟨ki,na,0,0,ki,false,0,λ_=>ki⟩ rfl rfl,Np];exact⟨λh=>⟨FQ h.1,FQ h.2⟩,λh=>⟨congrArg _ h.1,congrArg _ h.2⟩⟩
theorem Tu{B:Bk}{v:Wr}(h:Nj B v){i:Nat}(hp:T2 B v i):Nq B.os v.kind v.name B.on=if i<B.on/\Uu B.os v.kind v.name i=0 then some i else none:=by
 by_cases e:i<B.on/\Uu B.os v.kind v.name i=0
 .rw[if_pos e];have h1:Nq B.os v.kind v.name i=none:=R9 λj hj q=>by have:=hp.2.1 j hj;rw[(Ub _ _ _ _).2 q]at this;omega
  exact VL (QW h1 ((Ub _ _ _ _).1 e.2)) (Nat.succ_le_of_lt e.1)
 .rw[if_neg e];refine R9 λj hj q=>?_;have h0:=(Ub _ _ _ _).2 q;rcases Aw j i with h1|h1;.have:=hp.2.1 j h1;omega
  .rcases Aw i j with h2|h2;.have h3:=hp.2.2 i AQ Za;have h4:=h.asc i j h2 hj;rw[Ye B.os v.kind v.name i (tG v) rfl rfl,Mp]at h3;refine h3 ?_;have e1:(B.os j).kind=(tG v).kind:=q.1;have e2:(B.os j).name=(tG v).name:=q.2;unfold Fi at h4⊢;rw[e1,e2]at h4;exact h4
   .obtain rfl:i=j:=Za;exact e ⟨hj,h0⟩
end Go.Proofs.YtnnjcenacidceaaGreat
namespace Go.Proofs.YtnnjcenacidceaaGreat
open Go.RowKit Go.Proofs.Tryz
structure NU (w:World)(D K:Nat)(v:Wr)(pl:Int)(fo:Bool):Prop where c0:w.cell? ⟨D,0,none⟩=some (.p K 0)c1:w.cell? ⟨D,1,none⟩=some (.i v.op)c2:w.cell? ⟨D,2,none⟩=some (.s v.kind)c3:w.cell? ⟨D,3,none⟩=some (.s v.name)c4:w.cell? ⟨D,4,none⟩=some (.i v.seen)c5:w.cell? ⟨D,5,none⟩=some (.s v.text)c6:w.cell? ⟨D,6,none⟩=some (.s v.hold)c7:w.cell? ⟨D,7,none⟩=some (.i pl)c8:w.cell? ⟨D,8,none⟩=some (.bool fo)
theorem NU.grow{w w':World}{D K:Nat}{v:Wr}{pl:Int}{fo:Bool}(h:NU w D K v pl fo)(hb:Below w.1.size w w')(hD:D<w.1.size):NU w' D K v pl fo:=⟨(hb.cell (p:=⟨D,0,none⟩) hD).trans h.c0,(hb.cell (p:=⟨D,1,none⟩) hD).trans h.c1,(hb.cell (p:=⟨D,2,none⟩) hD).trans h.c2,(hb.cell (p:=⟨D,3,none⟩) hD).trans h.c3,(hb.cell (p:=⟨D,4,none⟩) hD).trans h.c4,(hb.cell (p:=⟨D,5,none⟩) hD).trans h.c5,(hb.cell (p:=⟨D,6,none⟩) hD).trans h.c6,(hb.cell (p:=⟨D,7,none⟩) hD).trans h.c7,(hb.cell (p:=⟨D,8,none⟩) hD).trans h.c8⟩
theorem NU.fr{w w':World}{P:Nat->Prop}{D K:Nat}{v:Wr}{pl:Int}{fo:Bool}(h:NU w D K v pl fo)(hb:Ay P w w')(hD:D<w.1.size)(hp:¬P D):NU w' D K v pl fo:=⟨(hb.cell (p:=⟨D,0,none⟩) hD hp).trans h.c0,(hb.cell (p:=⟨D,1,none⟩) hD hp).trans h.c1,(hb.cell (p:=⟨D,2,none⟩) hD hp).trans h.c2,(hb.cell (p:=⟨D,3,none⟩) hD hp).trans h.c3,(hb.cell (p:=⟨D,4,none⟩) hD hp).trans h.c4,(hb.cell (p:=⟨D,5,none⟩) hD hp).trans h.c5,(hb.cell (p:=⟨D,6,none⟩) hD hp).trans h.c6,(hb.cell (p:=⟨D,7,none⟩) hD hp).trans h.c7,(hb.cell (p:=⟨D,8,none⟩) hD hp).trans h.c8⟩
end Go.Proofs.YtnnjcenacidceaaGreat
namespace Go.Proofs.YtnnjcenacidceaaGreat
open Go.RowKit Go.Proofs.Tryz
theorem Vx{ops:Array Oper}{l:Array Bool}(hord:((List.range ops.size).all λi=>match ops[i]? with|some o=>o.after.all (λe=>!(Region.binds .any e)||decide (e.on<i))|none=>true)=true)(hs:l.size=ops.size)(hr:Region.ready .any ops l=[]):∀i,i<ops.size->l.getD i false=true:=by
 have conv:∀i,i<ops.size->l.getD i true=l.getD i false:=λi hi=>by simp[Array.getD,hs,hi]
 intro i;induction i using Nat.strongRecOn with
 |_ i ih=>intro hi;cases hg:l.getD i false with
  |true=>rfl
  |false=>
   have hm:i∈Region.ready .any ops l:=by
    rw[mem_ready];refine⟨(conv i hi).trans hg,ops[i],by simp[hi],λe he hbd=>?_⟩;have h1:=Be.1 hord i (by simpa using hi);simp only[KH hi]at h1;have h2:=(Bc.1 h1) e he;rw[hbd]at h2;have h3:e.on<i:=by simpa using h2
    exact ih e.on h3 Za
   rw[hr]at hm;cases hm
theorem VA{P:Program}{id:Nat}{ops:Array Oper}{Q:Exit->Act->World->Prop}{a0:Act}{W:World}(hm:P.follows .mixedOrders=true)(n:Nat)(mk:(Nat->Value)->Array Value)(t0:Nat->Value)(I:(Nat->Bool)->(Nat->Value)->World->Prop)(hn:ops.size=n)(hord:((List.range ops.size).all λi=>match ops[i]? with|some o=>o.after.all (λe=>!(Region.binds .any e)||decide (e.on<i))|none=>true)=true)(h0:a0=⟨mk t0,[]⟩)(hI:∀f:Nat->Bool,(∀i,f i=false)->I f t0 W.drew)(sg:∀i,i<n->∀(f:Nat->Bool)(t:Nat->Value) X K,I f t X->f i=false->(∀j,BM ops i j->f j=true)->(∀p j,BM ops p j->f p=true->f j=true)->(∀v Y,(∀g:Nat->Bool,g i=true->(∀j,¬j=i->g j=f j)->I g (AA t i v) Y)->K ⟨mk (AA t i v),[]⟩ Y)->wpOp P ops Q i K ⟨mk t,[]⟩ X)(hfin:∀(f:Nat->Bool) t X,(∀i,i<n->f i=true)->I f t X->Q .normal ⟨mk t,[]⟩ X):(Code.region id ops true).wp P Q a0 W:=by
 refine CC hm (λl a X=>l.size=n/\(∀p j,BM ops p j->l.getD p false=true->l.getD j false=true)/\∃t,a=⟨mk t,[]⟩/\I (λi=>l.getD i false) t X) ?_ ?_ ?_ ?_
 .have hz:∀i,(Array.replicate ops.size false).getD i false=false:=λi=>by simp[Array.getD]
  exact⟨by simp[hn],λp j _ h=>(by rw[hz]at h;cases h),t0,h0,hI _ hz⟩
 .rintro l a X ⟨hs,_⟩;rw[hs,hn]
 .rintro l a X ⟨hs,_,t,rfl,h⟩ hr;exact hfin _ t X (λi hi=>Vx hord (by rw[hs,hn]) hr i Za) h
 .rintro l a X i ⟨hs,hcl,t,rfl,h⟩ hr;obtain⟨hu,o,ho,hall⟩:=mem_ready.1 hr;have di:∀j,BM ops i j->l.getD j false=true:=by
   rintro j ⟨o',ho',e,he,hb,rfl⟩;rw[ho]at ho';obtain rfl:o=o':=by simpa using ho'
   exact hall e he hb
  have hi7:i<n:=by
   rcases Aw i n with h|h;.exact h
   .rw[Bt Za]at ho;cases ho
  have hui:l.getD i false=false:=by have:l.getD i true=false:=hu;simpa[Array.getD,hs,hi7]using this
  have ki:(l.setIfInBounds i true).getD i false=true:=by rw[Cd Za,if_pos rfl]
  have kp:∀j,¬j=i->(l.setIfInBounds i true).getD j false=l.getD j false:=λj hj=>by rw[Cd Za,if_neg hj]
  have ku:∀j,l.getD j false=true->(l.setIfInBounds i true).getD j false=true:=λj h=>by
   by_cases e:j=i;.subst e;exact ki
   .rw[kp j e];exact h
  refine sg i hi7 _ t X _ h hui di hcl (λv Y hY=>⟨by simp[hs],λp j hj h=>?_,AA t i v,rfl,hY _ ki kp⟩);by_cases e:p=i;.subst e;exact ku j (di j hj)
  .rw[kp p e]at h;exact ku j (hcl p j hj h)
theorem lX{P:Program}{id:Nat}{ops:Array Oper}{Q:Exit->Act->World->Prop}{a0:Act}{W:World}(hm:P.follows .mixedOrders=true)(n:Nat)(mk:(Nat->Value)->Array Value)(t0:Nat->Value)(I:(Nat->Bool)->(Nat->Value)->World->Prop)(hn:ops.size=n)(hord:((List.range ops.size).all λi=>match ops[i]? with|some o=>o.after.all (λe=>!(Region.binds .any e)||decide (e.on<i))|none=>true)=true)(h0:a0=⟨mk t0,[]⟩)(hI:∀f:Nat->Bool,(∀i,f i=false)->I f t0 W.drew)(sg:∀i,i<n->∀(f:Nat->Bool)(t:Nat->Value) X K,I f t X->f i=false->(∀j,BM ops i j->f j=true)->(∀v Y,(∀g:Nat->Bool,g i=true->(∀j,¬j=i->g j=f j)->I g (AA t i v) Y)->K ⟨mk (AA t i v),[]⟩ Y)->wpOp P ops Q i K ⟨mk t,[]⟩ X)(hfin:∀(f:Nat->Bool) t X,(∀i,i<n->f i=true)->I f t X->Q .normal ⟨mk t,[]⟩ X):(Code.region id ops true).wp P Q a0 W:=VA hm n mk t0 I hn hord h0 hI (λi hi f t X K h1 h2 h3 _ h5=>sg i hi f t X K h1 h2 h3 h5) hfin
end Go.Proofs.YtnnjcenacidceaaGreat
namespace Go.Proofs.YtnnjcenacidceaaGreat
open Go.RowKit Go.Maps Go.Proofs.Tryz
structure Vg (w:World)(z:Nat)(ad:OA)(b off n cap:Nat)(cs:List Value):Prop where
 len:cs.length=n*z
 one:∀u∈cs,u.oneCell'=true
 src:(ad=none/\n=0/\cap=0)\/(ad=some ⟨b,off,none⟩/\n<=cap/\b<w.1.size/\∀t u,cs[t]?=some u->w.cell? ⟨b,off+t,none⟩=some u)
theorem Vg.grow{w w':World}{z:Nat}{ad:OA}{b off n cap:Nat}{cs:List Value}(h:Vg w z ad b off n cap cs)(hb:Below w.1.size w w'):Vg w' z ad b off n cap cs:=⟨h.len,h.one,by
  rcases h.src with h1|⟨h1,h2,h3,h4⟩;.exact AB h1
  .exact AE ⟨h1,h2,Ad h3 hb.size,λt u hu=>(hb.cell (p:=⟨b,off+t,none⟩) h3).trans (h4 t u hu)⟩⟩
theorem Vg.take{w:World}{z:Nat}{ad:OA}{b off n cap:Nat}{cs:List Value}(h:Vg w z ad b off n cap cs){k:Nat}(hk:k<=n):(cs.take (k*z)).length=k*z/\(∀u∈cs.take (k*z),u.oneCell'=true)/\((ad=none/\k=0/\cap=0)\/∃b off,ad=some ⟨b,off,none⟩/\b<w.1.size/\∀t u,(cs.take (k*z))[t]?=some u->w.cell? ⟨b,off+t,none⟩=some u):=by
 have hm:k*z<=n*z:=Nat.mul_le_mul_right z hk;refine⟨by rw[List.length_take,h.len,Nat.min_eq_left hm],λu hu=>h.one u (List.mem_of_mem_take hu),?_⟩;rcases h.src with⟨h1,h2,h3⟩|⟨h1,h2,h3,h4⟩;.exact AB ⟨h1,Za,h3⟩
 .refine AE ⟨b,off,h1,h3,λt u hu=>h4 t u ?_⟩;rw[List.getElem?_take]at hu;split at hu;.exact hu
  .cases hu
theorem Sr{w w':World}{base e z n:Nat}{v:Value}{xs:List Value}(h:w.ownsRow base e z v n xs)(hb:Below w.1.size w w'):w'.ownsRow base e z v n xs:=Lt h (Ar (P:=λ_=>False) hb) (λ_ _ h=>h)
end Go.Proofs.YtnnjcenacidceaaGreat
namespace Go.Proofs.YtnnjcenacidceaaGreat
open Go.RowKit Go.Maps Go.Proofs.Tryz
theorem WQ{w:World}{g:Nat}{c:Nat->Value}{v0 v1 v2 v3 v4 v5 v6:Value}(h:AN w g 7 c):AN (((((((w.setCell ⟨g,0,none⟩ v0).setCell ⟨g,1,none⟩ v1).setCell ⟨g,2,none⟩ v2).setCell ⟨g,3,none⟩ v3).setCell ⟨g,4,none⟩ v4).setCell ⟨g,5,none⟩ v5).setCell ⟨g,6,none⟩ v6) g 7 (AW [v0,v1,v2,v3,v4,v5,v6]):=by have H:=((((((h.set (o:=0) Za v0).set (o:=1) Za v1).set (o:=2) Za v2).set (o:=3) Za v3).set (o:=4) Za v4).set (o:=5) Za v5).set (o:=6) Za v6;refine⟨H.lt,H.free,λj hj=>(H.cell j hj).trans ?_⟩;rcases(show j=0\/j=1\/j=2\/j=3\/j=4\/j=5\/j=6 by omega)with rfl|rfl|rfl|rfl|rfl|rfl|rfl<;>rfl
end Go.Proofs.YtnnjcenacidceaaGreat
