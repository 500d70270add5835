import Derived.Test.YtllmmkchokkaaaaGreatDoorPk17
import Derived.Test.YtllmmkchokkaaaaGreatDoorPk16
import Derived.Test.YtllmmkchokkaaaaGreatDoorPk14
import Derived.Deep.RegionWith
set_option maxRecDepth 100000
set_option maxHeartbeats 2000000
namespace Go.Proofs.YtllmmkchokkaaaaGreatDoor
open Go.RowKit Go.Maps Go.Proofs.Tryz
theorem TA{h:Nat->Ch}{i n:Nat}(hi:i<n):∃i',QE h (h i).ob.kind (h i).ob.name n=some i':=by induction n with
 |zero=>omega
 |succ n ih=>
  by_cases h2:(h n).ob.kind=(h i).ob.kind/\(h n).ob.name=(h i).ob.name;.exact⟨n,MJ h2⟩
  .rw[Mv h2];rcases As i n with h3|h3;.exact ih h3
   .have:i=n:=Za;subst this;exact absurd ⟨rfl,rfl⟩ h2
def QT(floor:Int)(x:Nat->Ob)(n:Nat)(h:Nat->Ch)(i:Nat):Bool:=match QE h (x i).kind (x i).name n with|none=>decide ((x i).ver<=floor)|some j=>!(h j).gone&&Cu (x i) (h j).ob
def Qd (m:Nat)(x:Nat->Ob)(n:Nat)(h:Nat->Ch)(i:Nat):Bool:=!decide (QE h (h i).ob.kind (h i).ob.name n=some i)||((h i).gone||(JS x (h i).ob.kind (h i).ob.name m).isSome)
def O7 (floor:Int)(m:Nat)(x:Nat->Ob)(n:Nat)(h:Nat->Ch):Bool:=Bi (QT floor x n h) m&&Bi (Qd m x n h) n
theorem UD{P:Prop}(h:P:=by
  rw[hg]at r1;clear hg;go_wp2_with (at_lookup;go_must(refine wpList_lookup_own_int _ rfl _ _ 186 rfl 139 3 .i64 Cm underlying186 underlying3 (JP _) (w.1.size+1) n D rfl hD2 _ _ rfl hky ?_;intro c2 hat hwc;have hci:c2=(i':Int):=Mk (hat.symm.trans KO);subst hci;clear hat hwc));go_roundw;case rel=>exact⟨i'+1,Za,by go_num,hB2,hE2,λj hj=>(by
   rcases As j i' with h3|h3;.exact HA j h3
   .have:j=i':=Za;subst this;exact HN)⟩
  case measure=>simp[intOf];omega):P:=h
theorem bG{P:Prop}(h:P:=by
  have HN:=Ai (show Qd m x n h k=true by unfold Qd;rw[Qv.out];simp[hii]);have hd:((i':Int)==(k:Int))=false:=Zd;go_wp2_with (at_lookup;go_must(refine wpList_lookup_own_int _ rfl _ _ 186 rfl 139 3 .i64 Cm underlying186 underlying3 (JP _) (w.1.size+1) n D rfl hD2 _ _ rfl hky ?_;intro c2 hat hwc;have hci:c2=(i':Int):=Mk (hat.symm.trans KO);subst hci;clear hat hwc));go_roundw;case rel=>exact⟨k+1,Za,by go_num,hB2,hE2,λj hj=>(by
   rcases As j k with h3|h3;.exact HA j h3
   .have:j=k:=Za;subst this;exact HN)⟩
  case measure=>simp[intOf];omega):P:=h
theorem aX{P:Prop}(h:P:=by
  have hne:Nonempty (GW w1):=⟨⟨_,Ak _ _⟩⟩;refine Ay Zc Zc ?_;repeat(go_big_quiet_step((go_at_call 143;go_must(exact AY (PL (x k) (h j).ob ah ah' ch ch' _ lo hi (hhu _) hxh hjh (hu1 _) (hu2 _))))))
  refine wpQuiet_nil ?_;rintro w2⟨u,hu⟩;have hw2:Below w1.1.size w1 w2:=hu▸u.prop;clear hu u hne;have hB2:=hB1.trans (hw2.mono Za);clear hown1 hhu hu1 hu2 z3 x0 x1 x2 x3 x4 x5 x6 y1 y2 y3 y4 y5 y6 y7 y8 p0 p1 p2 p3 p4 p5 p6 o1 o3;go_wp2;go_ret;exact⟨Av HE.symm,(An _ _).trans (hB2.mono Za)⟩):P:=h
theorem ZN{P:Prop}(h:P:=by
  go_wp2;go_roundw;case rel=>exact⟨k+1,Za,by go_num,hB2,hown2,λj hj=>(by
   rcases As j k with h3|h3;.exact HA j h3
   .have:j=k:=Za;subst this;exact HN)⟩
  case measure=>simp[intOf];omega):P:=h
theorem QF (now floor:Int)(m n:Nat)(x:Nat->Ob)(h:Nat->Ch)(a1 a2 a3:OA)(c1 c2 n3 c3:Nat)(w:World)(lo hi:Nat)(hhi:hi<=w.1.size)(hm:(m:Int)<=1099511627776)(hl:(n:Int)<=1099511627776)(hx:∀i,i<m->CW (x i))(hf:∀i,i<n->CW (h i).ob)(hco:BH w lo hi a1 m x)(hc:Dp w lo hi a2 n h):Calls prog 88 #[.agg #[.i now,.i floor,.l a1 m c1,.l a2 n c2,.l a3 n3 c3]] w λe w'=>e=.returned (.bool (O7 floor m x n h))/\Below w.1.size w w':=by
 have hcA:=λo=>hc.below (An w o) hhi;go_enter func88,ntmps88;go_wp2_with fail;refine(Ug n h a2 c2 _ lo hi Zd hl hf (hcA _)).mono ?_;rintro e w0⟨D,rfl,hown0,htold,hb0⟩;simp only[AE]at hown0 hb0⊢;have k2:w0.cell? ⟨w.1.size,2,none⟩=some (.slice a1 m c1):=(hb0.cell (p:=⟨w.1.size,2,none⟩) Zg).trans (At _ _ _ _);have tE:=Ai hown0;have vG:=Ai htold;clear hown0 htold hcA;go_wp2;go_loopw[19](λi wr=>∃k:Nat,k<=m/\i=.i k/\Below (w.1.size+1) (w.alloc (.cells #[.i now,.i floor,.l a1 m c1,.l a2 n c2,.l a3 n3 c3] 35)) wr/\wr.ownsMap prog 139 (plainElem prog 3) (w.1.size+1) n D/\∀j,j<k->QT floor x n h j=true)(λi _=>m-(intOf i).toNat);case atStart=>exact⟨0,Ap _,rfl,hb0,tE,λj hj=>absurd hj (Al _)⟩
 case round=>
  obtain⟨k,hk,rfl,hb,hown,hall⟩:=hrel;have hBw:Below w.1.size w wr:=(An _ _).trans (hb.mono Za);have hsz:w.1.size+1<=wr.1.size:=by have:=hb.size;simpa using this
  have hlt:=hown.lt;clear k2 tE hb0;by_cases hkn:k<m
  .obtain⟨b,off,ah,ch,rfl,hlo,hbh,hcx,hsx⟩:=hco k hkn;have hxk:=hx k hkn;have hxh:((x k).hn:Int)<=140737488355328:=by have:=hxk.h;omega
   have hsk:(x k).kind.size<=maxLen:=by unfold maxLen;have:=hxk.k;omega
   have hsn:(x k).name.size<=maxLen:=by unfold maxLen;have:=hxk.n;omega
   obtain⟨d0,d1,d2,d3,d4,d5,d6⟩:=hcx.below hBw Za;have HS:=Ai hsx;have HC:=Ai hc;have HF:=Ai hf;have HA:=Ai hall;have hky:=Uc (x k).kind (x k).name hsk hsn;have Gi:=Ai hown;clear hc hf hco hx hcx hsx hall hown;cases hfd:QE h (x k).kind (x k).name n with
   |none=>
    have hhas:=(vG _ _ hsk hsn).2 hfd;have HL:=Ai (show QT floor x n h k=decide ((x k).ver<=floor)by unfold QT;rw[hfd]);clear hfd;go_wp2_with fail;refine(B9 (x k) ah ch _).mono ?_;rintro e w1⟨rfl,hb1⟩;have hown1:=Ai (BC (Gi.alloc _) hb1 Zd);have hB1:Below (w.1.size+1) (w.alloc (.cells #[.i now,.i floor,.l (some ⟨b,off,none⟩) m c1,.l a2 n c2,.l a3 n3 c3] 35)) w1:=(hb.alloc hsz (.cells (vO (x k) ah ch) 118)).trans (hb1.mono Zd);have hz1:wr.1.size<w1.1.size:=by have:=hb1.size;simp at this;omega
    have p0:=Au hb1 0;have p1:=Au hb1 1;have p2:=Au hb1 2;have p3:=Au hb1 3;have p4:=Au hb1 4;have p5:=Au hb1 5;have p6:=Au hb1 6;simp only[Ah,Ad,Ab]at p0 p1 p2 p3 p4 p5 p6;have o1:=Au Xs 1;have o3:=Au Xs 3;simp only[Ah,Ad,Ab]at o1 o3;clear hb1 d0 d1 d2 d3 d4 d5 d6 Gi;by_cases hv:(x k).ver<=floor
    .have HN:=Ai (show QT floor x n h k=true by rw[HL.out];exact decide_eq_true hv);have hd:decide (floor<(x k).ver)=false:=decide_eq_false Za;go_wp2_with (at_lookup;go_must(refine wpList_lookup_own_ok_int _ rfl _ _ 186 rfl 139 3 .i64 Cm underlying186 underlying3 (JP _) (w.1.size+1) n D rfl hown1 _ _ rfl hky ?_;intro c hat hwc;clear hat hwc));have hne:Nonempty (GW w1):=⟨⟨_,Ak _ _⟩⟩;refine Ay Zc Zc ?_;repeat(go_big_quiet_step(fail))
     refine wpQuiet_nil ?_;rintro w2⟨u,hu⟩;have hw2:Below w1.1.size w1 w2:=hu▸u.prop;clear hu u hne;have hB2:=hB1.trans (hw2.mono Za);have hown2:=Ai (BC hown1 hw2 hown1.lt);clear hown1 p0 p1 p2 p3 p4 p5 p6 o1 o3;exact ZN
    .have HE:=Ai (show O7 floor m x n h=false by unfold O7;rw[A9 hkn (HL.trans (decide_eq_false hv))];rfl);have hd:decide (floor<(x k).ver)=true:=decide_eq_true Za;go_wp2_with (at_lookup;go_must(refine wpList_lookup_own_ok_int _ rfl _ _ 186 rfl 139 3 .i64 Cm underlying186 underlying3 (JP _) (w.1.size+1) n D rfl hown1 _ _ rfl hky ?_;intro c hat hwc;clear hat hwc));go_ret;exact⟨Av HE.symm,(An _ _).trans (hB1.mono Za)⟩
   |some j=>
    obtain⟨hhas,hatk⟩:=(vG _ _ hsk hsn).1 j hfd;have hjn:=(LH hfd).1;have HL:=Ai (show QT floor x n h k=(!(h j).gone&&Cu (x k) (h j).ob)by unfold QT;rw[hfd]);have KO:=Ai hatk;clear hfd hatk;obtain⟨b',off',ah',ch',rfl,hlo',hbh',hcy,hsy⟩:=HC j hjn;have hjh:((h j).ob.hn:Int)<=140737488355328:=by have:=(HF j hjn).h;omega
    have uP:=Ai hsy;clear hsy;have hjz:(j:Int)<n:=Za;go_wp2_with fail;refine(B9 (x k) ah ch _).mono ?_;rintro e w1⟨rfl,hb1⟩;have hown1:=Ai (BC (Gi.alloc _) hb1 Zd);have hB1:Below (w.1.size+1) (w.alloc (.cells #[.i now,.i floor,.l (some ⟨b,off,none⟩) m c1,.l (some ⟨b',off',none⟩) n c2,.l a3 n3 c3] 35)) w1:=(hb.alloc hsz (.cells (vO (x k) ah ch) 118)).trans (hb1.mono Zd);have hz1:wr.1.size<w1.1.size:=by have:=hb1.size;simp at this;omega
    have p0:=Au hb1 0;have p1:=Au hb1 1;have p2:=Au hb1 2;have p3:=Au hb1 3;have p4:=Au hb1 4;have p5:=Au hb1 5;have p6:=Au hb1 6;simp only[Ah,Ad,Ab]at p0 p1 p2 p3 p4 p5 p6;have o1:=Au Xs 1;have o3:=Au Xs 3;simp only[Ah,Ad,Ab]at o1 o3;clear hb1 d0 d1 d2 d3 d4 d5 d6 Gi;go_wp2_with (at_lookup;go_must(refine wpList_lookup_own_ok_int _ rfl _ _ 186 rfl 139 3 .i64 Cm underlying186 underlying3 (JP _) (w.1.size+1) n D rfl hown1 _ _ rfl hky ?_;intro c hat hwc;have hci:c=(j:Int):=Mk (hat.symm.trans KO);subst hci;clear hat hwc));have hBw1:Below w.1.size w w1:=(An _ _).trans (hB1.mono Za);obtain⟨f0,f1,f2,f3,f4,f5,f6,f7,f8⟩:=hcy.below hBw1 Za;have hhw:hi<=w1.1.size:=Za;have y2:=Aj f2 Sy;have y3:=Aj f3 Sy;have y4:=Aj f4 Sy;have y5:=Aj f5 Sy;have y6:=Aj f6 Sy;have y7:=Aj f7 Sy;have y8:=Aj f8 Sy;have x0:=Aj p0 hz1;have x1:=Aj p1 hz1;have x2:=Aj p2 hz1;have x3:=Aj p3 hz1;have x4:=Aj p4 hz1;have x5:=Aj p5 hz1;have x6:=Aj p6 hz1;have z3:=Aj o3 Zg;have hhu:∀u:GW w1,hi<=u.val.1.size:=λu=>AA hhw u.prop.size;have hu1:∀u:GW w1,AB u.val lo hi ah (x k).hn (x k).hs:=λu=>HS.below (hBw1.trans (u.prop.mono Za)) hhi;have hu2:∀u:GW w1,AB u.val lo hi ah' (h j).ob.hn (h j).ob.hs:=λu=>uP.below (hBw1.trans (u.prop.mono Za)) hhi;cases hg:(h j).gone with
    |true=>have HE:=Ai (show O7 floor m x n h=false by unfold O7;rw[A9 hkn (HL.trans (by rw[hg];rfl))];rfl);rw[hg]at f1;have y1:=Aj f1 Sy;clear hg f0 f1 f2 f3 f4 f5 f6 f7 f8 hcy;exact aX
    |false=>rw[hg]at f1;have y1:=Aj f1 Sy;have oW:=Ai (show QT floor x n h k=Cu (x k) (h j).ob by rw[HL.out,hg];rfl);clear hg f0 f1 f2 f3 f4 f5 f6 f7 f8 hcy;cases hsm:Cu (x k) (h j).ob with
     |false=>have HE:=Ai (show O7 floor m x n h=false by unfold O7;rw[A9 hkn (oW.trans hsm)];rfl);exact aX
     |true=>
      have HN:=Ai (oW.trans hsm);have hne:Nonempty (GW w1):=⟨⟨_,Ak _ _⟩⟩;refine Ay Zc Zc ?_;repeat(go_big_quiet_step((go_at_call 143;go_must(exact AY (PL (x k) (h j).ob ah ah' ch ch' _ lo hi (hhu _) hxh hjh (hu1 _) (hu2 _))))))
      refine wpQuiet_nil ?_;rintro w2⟨u,hu⟩;have hw2:Below w1.1.size w1 w2:=hu▸u.prop;clear hu u hne;have hB2:=hB1.trans (hw2.mono Za);have hown2:=Ai (BC hown1 hw2 hown1.lt);clear hown1 hhu hu1 hu2 z3 x0 x1 x2 x3 x4 x5 x6 y1 y2 y3 y4 y5 y6 y7 y8 p0 p1 p2 p3 p4 p5 p6 o1 o3;exact ZN
  .have:m=k:=Za;subst this;have HO:=Ai (show Bi (QT floor x n h) m=true from Bm.2 hall);have o2:=Au L6 2;have o3:=Au L6 3;simp only[Ah,Ad,Ab]at o2 o3;have HD:=Ai hown;clear hall hown;go_wp2_with fail;refine(Uv m x a1 c1 wr lo hi Za hm hx (hco.below hBw hhi)).mono ?_;rintro e wp⟨E,rfl,hownE,htoldE,hbp⟩;have yJ:=Ai hownE;have nP:=Ai htoldE;have q3:=(hbp.cell (p:=⟨w.1.size,3,none⟩) Zg).trans o3;clear hownE htoldE o2 o3 hx hco;obtain⟨W,hW⟩:∃W,W=wr:=⟨wr,rfl⟩;subst hW;go_wp2;go_loopw[66](λi wq=>∃k:Nat,k<=n/\i=.i k/\Below W.1.size W wq/\wq.ownsMap prog 139 (plainElem prog 3) W.1.size m E/\∀j,j<k->Qd m x n h j=true)(λi _=>n-(intOf i).toNat);case atStart=>exact⟨0,Ap _,rfl,hbp,yJ,λj hj=>absurd hj (Al _)⟩
   case round=>
    obtain⟨k,hk2,rfl,hb2,hownE,hall⟩:=hrel;have hBq:Below w.1.size w wr:=hBw.trans (hb2.mono hBw.size);have hltE:=hownE.lt;clear q3 yJ hbp;by_cases hkn2:k<n
    .obtain⟨b,off,ah,ch,rfl,hlo,hbh,hcx,hsx⟩:=hc k hkn2;have hfk:=hf k hkn2;have hsk:(h k).ob.kind.size<=maxLen:=by unfold maxLen;have:=hfk.k;omega
     have hsn:(h k).ob.name.size<=maxLen:=by unfold maxLen;have:=hfk.n;omega
     obtain⟨d0,d1,d2,d3,d4,d5,d6,d7,d8⟩:=hcx.below hBq Za;have hky:=Uc (h k).ob.kind (h k).ob.name hsk hsn;obtain⟨i',hli⟩:=TA (h:=h) hkn2;have Qv:=Ai hli;have hin:=(LH hli).1;have KO:=Ai ((vG _ _ hsk hsn).1 i' hli).2;have HA:=Ai hall;have yU:=Ai hownE;clear hli hc hf hcx hsx hall hownE hb;go_wp2_with fail;refine(B9 (h k).ob ah ch _).mono ?_;rintro e w1⟨rfl,hb1⟩;have hE1:=Ai (BC (yU.alloc _) hb1 Zd);have hB1:Below W.1.size W w1:=(hb2.alloc Za _).trans (hb1.mono Zd);have hz1:wr.1.size<w1.1.size:=by have:=hb1.size;simp at this;omega
     have p0:=Au hb1 0;have p1:=Au hb1 1;have p2:=Au hb1 2;have p3:=Au hb1 3;have p4:=Au hb1 4;have p5:=Au hb1 5;have p6:=Au hb1 6;have p7:=Au hb1 7;have p8:=Au hb1 8;simp only[Ah,Ad,Ab]at p0 p1 p2 p3 p4 p5 p6 p7 p8;clear hb1 d0 d1 d2 d3 d4 d5 d6 d7 d8 yU;cases hfn:JS x (h k).ob.kind (h k).ob.name m with
     |none=>
      have hhas:=(nP _ _ hsk hsn).2 hfn;have uQ:=Ai hfn;clear hfn;go_wp2_with (at_lookup;go_must(refine wpList_lookup_own_ok_int _ rfl _ _ 186 rfl 139 3 .i64 Cm underlying186 underlying3 (JP _) W.1.size m E rfl hE1 _ _ rfl hky ?_;intro c hat hwc;clear hat hwc));refine(B9 (h k).ob ah ch _).mono ?_;rintro e w2⟨rfl,hb22⟩;have hB2:Below W.1.size W w2:=hB1.trans (hb22.mono Za);have hE2:=Ai (BC hE1 hb22 Za);have hD2:=Ai (BC HD hB2 Za);have r1:=(hb22.cell (p:=⟨wr.1.size,1,none⟩) hz1).trans p1;clear hb22 p0 p1 p2 p3 p4 p5 p6 p7 p8 hE1;by_cases hii:i'=k;case neg=>exact bG
      subst hii;cases hg:(h i').gone with
      |true=>have HN:=Ai (show Qd m x n h i'=true by unfold Qd;rw[Qv.out,hg];simp);exact UD
      |false=>have HE:=Ai (show O7 floor m x n h=false by unfold O7;rw[A9 hkn2 (show Qd m x n h i'=false by unfold Qd;rw[Qv.out,hg,uQ.out];simp)];simp);rw[hg]at r1;clear hg;go_wp2_with (at_lookup;go_must(refine wpList_lookup_own_int _ rfl _ _ 186 rfl 139 3 .i64 Cm underlying186 underlying3 (JP _) (w.1.size+1) n D rfl hD2 _ _ rfl hky ?_;intro c2 hat hwc;have hci:c2=(i':Int):=Mk (hat.symm.trans KO);subst hci;clear hat hwc));go_ret;exact⟨Av HE.symm,hBw.trans (hB2.mono hBw.size)⟩
     |some g=>
      have hhas:=((nP _ _ hsk hsn).1 g hfn).1;have uQ:=Ai hfn;clear hfn;go_wp2_with (at_lookup;go_must(refine wpList_lookup_own_ok_int _ rfl _ _ 186 rfl 139 3 .i64 Cm underlying186 underlying3 (JP _) W.1.size m E rfl hE1 _ _ rfl hky ?_;intro c hat hwc;clear hat hwc));refine(B9 (h k).ob ah ch _).mono ?_;rintro e w2⟨rfl,hb22⟩;have hB2:Below W.1.size W w2:=hB1.trans (hb22.mono Za);have hE2:=Ai (BC hE1 hb22 Za);have hD2:=Ai (BC HD hB2 Za);have r1:=(hb22.cell (p:=⟨wr.1.size,1,none⟩) hz1).trans p1;clear hb22 p0 p1 p2 p3 p4 p5 p6 p7 p8 hE1;by_cases hii:i'=k;case neg=>exact bG
      subst hii;cases hg:(h i').gone with
      |true=>have HN:=Ai (show Qd m x n h i'=true by unfold Qd;rw[Qv.out,hg];simp);exact UD
      |false=>have HN:=Ai (show Qd m x n h i'=true by unfold Qd;rw[Qv.out,hg,uQ.out];simp);exact UD
    .have HE:=Ai (show O7 floor m x n h=true by unfold O7;rw[HO.out,Bm.2 (λi hi=>hall i Za)];rfl);clear hc hf hall hownE;go_wp2;go_ret;exact⟨Av HE.symm,hBq⟩
end Go.Proofs.YtllmmkchokkaaaaGreatDoor
namespace Go.Proofs.YtllmmkchokkaaaaGreatDoor
open Go.RowKit Go.Maps Go.Proofs.Tryz
def Ht (B:Bk):Nat->Bool
 |0=>J9 B.now B.floor
 |1=>DW B.on B.os B.now
 |2=>ER B.on B.os
 |3=>Fh B.now B.floor B.hn B.hs
 |4=>Bi (Iz B.floor B.hs) B.hn
 |5=>O7 B.floor B.on B.os B.hn B.hs
 |_=>Ku B.tn B.ts B.now
theorem TU{now floor:Int}(h:J9 now floor=true):0<=floor/\floor<=now/\now<=1000000:=by unfold J9 DU at h;simp at h;omega
theorem LD{P:Prop}(h:P:=by go_ret;exact⟨Av HE.symm,hBw.trans (hb2.mono Za)⟩):P:=h
theorem K9 (B:Bk)(a1 a2 a3:OA)(c1 c2 c3:Nat)(w:World)(lo hi:Nat)(hhi:hi<=w.1.size)(hfit:Cx B)(hin:Bz w lo hi B a1 a2 a3):Calls prog 40 #[.agg (vB B a1 a2 a3 c1 c2 c3)] w λe w'=>e=.returned (.bool (Bi (Ht B) 7))/\Below w.1.size w w':=by
 obtain⟨f1,f2,f3,f4,f5,f6⟩:=hfit;go_enter func40,ntmps40;go_wp2_with fail;go_loopw[9](λi wr=>∃k:Nat,k<=7/\i=.i k/\Below (w.1.size+1+1) ((w.alloc (.cells (vB B a1 a2 a3 c1 c2 c3) 35)).alloc (.cells #[.func (.func 83) #[] #[],.func (.func 84) #[] #[],.func (.func 85) #[] #[],.func (.func 86) #[] #[],.func (.func 87) #[] #[],.func (.func 88) #[] #[],.func (.func 89) #[] #[]] 79)) wr/\∀j,j<k->Ht B j=true)(λi _=>7-(intOf i).toNat);case atStart=>exact⟨0,Ap _,rfl,Ak _ _,λj hj=>absurd hj (Al _)⟩
 case round=>
  obtain⟨k,hk,rfl,hb,hall⟩:=hrel;have hBw:Below w.1.size w wr:=((An _ _).alloc Ze _).trans (hb.mono Za);have hsz:w.1.size+2<=wr.1.size:=by have:=hb.size;simpa using this
  have hhw:hi<=wr.1.size:=Za;have HI:=Ai (show Bz wr lo hi B a1 a2 a3 from⟨hin.o.below hBw hhi,hin.h.below hBw hhi,hin.t.below hBw hhi⟩);have HA:=Ai hall;have e0:wr.cell? ⟨w.1.size,0,none⟩=some (.i B.now):=(hb.cell (p:=⟨w.1.size,0,none⟩) Zg).trans Ze;have e1:wr.cell? ⟨w.1.size,1,none⟩=some (.i B.floor):=(hb.cell (p:=⟨w.1.size,1,none⟩) Zg).trans Ze;have e2:wr.cell? ⟨w.1.size,2,none⟩=some (.slice a1 B.on c1):=(hb.cell (p:=⟨w.1.size,2,none⟩) Zg).trans Ze;have e3:wr.cell? ⟨w.1.size,3,none⟩=some (.slice a2 B.hn c2):=(hb.cell (p:=⟨w.1.size,3,none⟩) Zg).trans Ze;have e4:wr.cell? ⟨w.1.size,4,none⟩=some (.slice a3 B.tn c3):=(hb.cell (p:=⟨w.1.size,4,none⟩) Zg).trans Ze;clear hin;rcases(show k=0\/k=1\/k=2\/k=3\/k=4\/k=5\/k=6\/k=7 by omega)with rfl|rfl|rfl|rfl|rfl|rfl|rfl|rfl;all_goals clear hall
  iterate 1
   .have g:wr.cell? ⟨w.1.size+1,0,none⟩=some (.func (.func 83) #[] #[]):=(hb.cell (p:=⟨w.1.size+1,0,none⟩) Zp).trans Ze;cases hp:Ht B 0 with
    |false=>have HE:=Ai (show Bi (Ht B) 7=false from A9 (show 0<7 by omega) hp);have hp':J9 B.now B.floor=false:=hp;go_wp2_with (go_at_call 83;refine(NX B.now B.floor a1 a2 a3 B.on c1 B.hn c2 B.tn c3 wr).mono ?_;rintro e w2⟨rfl,hb2⟩;rw[hp']);exact LD
    |true=>
     have HP:=Ai hp;have hp':J9 B.now B.floor=true:=hp;go_wp2_with (go_at_call 83;refine(NX B.now B.floor a1 a2 a3 B.on c1 B.hn c2 B.tn c3 wr).mono ?_;rintro e w2⟨rfl,hb2⟩;rw[hp']);go_roundw;case rel=>exact⟨1,Za,by go_num,hb.trans (hb2.mono Za),λj hj=>(by
      rcases As j 0 with h3|h3;.exact HA j h3
      .have:j=0:=Za;subst this;exact HP)⟩
     case measure=>simp[intOf]
   .have g:wr.cell? ⟨w.1.size+1,1,none⟩=some (.func (.func 84) #[] #[]):=(hb.cell (p:=⟨w.1.size+1,1,none⟩) Zp).trans Ze;cases hp:Ht B 1 with
    |false=>have HE:=Ai (show Bi (Ht B) 7=false from A9 (show 1<7 by omega) hp);have hp':DW B.on B.os B.now=false:=hp;go_wp2_with (go_at_call 84;refine(N6 B.now B.floor B.on B.os a1 a2 a3 c1 B.hn c2 B.tn c3 wr lo hi hhw f1 f4 HI.o).mono ?_;rintro e w2⟨rfl,hb2⟩;rw[hp']);exact LD
    |true=>
     have HP:=Ai hp;have hp':DW B.on B.os B.now=true:=hp;go_wp2_with (go_at_call 84;refine(N6 B.now B.floor B.on B.os a1 a2 a3 c1 B.hn c2 B.tn c3 wr lo hi hhw f1 f4 HI.o).mono ?_;rintro e w2⟨rfl,hb2⟩;rw[hp']);go_roundw;case rel=>exact⟨2,Za,by go_num,hb.trans (hb2.mono Za),λj hj=>(by
      rcases As j 1 with h3|h3;.exact HA j h3
      .have:j=1:=Za;subst this;exact HP)⟩
     case measure=>simp[intOf]
   .have g:wr.cell? ⟨w.1.size+1,2,none⟩=some (.func (.func 85) #[] #[]):=(hb.cell (p:=⟨w.1.size+1,2,none⟩) Zp).trans Ze;cases hp:Ht B 2 with
    |false=>have HE:=Ai (show Bi (Ht B) 7=false from A9 (show 2<7 by omega) hp);have hp':ER B.on B.os=false:=hp;go_wp2_with (go_at_call 85;refine(NO B.now B.floor B.on B.os a1 a2 a3 c1 B.hn c2 B.tn c3 wr lo hi hhw f1 f4 HI.o).mono ?_;rintro e w2⟨rfl,hb2⟩;rw[hp']);exact LD
    |true=>
     have HP:=Ai hp;have hp':ER B.on B.os=true:=hp;go_wp2_with (go_at_call 85;refine(NO B.now B.floor B.on B.os a1 a2 a3 c1 B.hn c2 B.tn c3 wr lo hi hhw f1 f4 HI.o).mono ?_;rintro e w2⟨rfl,hb2⟩;rw[hp']);go_roundw;case rel=>exact⟨3,Za,by go_num,hb.trans (hb2.mono Za),λj hj=>(by
      rcases As j 2 with h3|h3;.exact HA j h3
      .have:j=2:=Za;subst this;exact HP)⟩
     case measure=>simp[intOf]
   .have g:wr.cell? ⟨w.1.size+1,3,none⟩=some (.func (.func 86) #[] #[]):=(hb.cell (p:=⟨w.1.size+1,3,none⟩) Zp).trans Ze;have hnn:=HA.out 0 Za;obtain⟨hn1,hn2,hn3⟩:=TU hnn;clear hnn;cases hp:Ht B 3 with
    |false=>have HE:=Ai (show Bi (Ht B) 7=false from A9 (show 3<7 by omega) hp);have hp':Fh B.now B.floor B.hn B.hs=false:=hp;go_wp2_with (go_at_call 86;refine(MM B.now B.floor B.hn B.hs a1 a2 a3 B.on c1 c2 B.tn c3 wr lo hi hhw f2 hn1 hn2 hn3 f5 HI.h).mono ?_;rintro e w2⟨rfl,hb2⟩;rw[hp']);exact LD
    |true=>
     have HP:=Ai hp;have hp':Fh B.now B.floor B.hn B.hs=true:=hp;go_wp2_with (go_at_call 86;refine(MM B.now B.floor B.hn B.hs a1 a2 a3 B.on c1 c2 B.tn c3 wr lo hi hhw f2 hn1 hn2 hn3 f5 HI.h).mono ?_;rintro e w2⟨rfl,hb2⟩;rw[hp']);go_roundw;case rel=>exact⟨4,Za,by go_num,hb.trans (hb2.mono Za),λj hj=>(by
      rcases As j 3 with h3|h3;.exact HA j h3
      .have:j=3:=Za;subst this;exact HP)⟩
     case measure=>simp[intOf]
   .have g:wr.cell? ⟨w.1.size+1,4,none⟩=some (.func (.func 87) #[] #[]):=(hb.cell (p:=⟨w.1.size+1,4,none⟩) Zp).trans Ze;cases hp:Ht B 4 with
    |false=>have HE:=Ai (show Bi (Ht B) 7=false from A9 (show 4<7 by omega) hp);have hp':Bi (Iz B.floor B.hs) B.hn=false:=hp;go_wp2_with (go_at_call 87;refine(MT B.now B.floor B.hn B.hs a1 a2 a3 B.on c1 c2 B.tn c3 wr lo hi hhw f2 f5 HI.h).mono ?_;rintro e w2⟨rfl,hb2⟩;rw[hp']);exact LD
    |true=>
     have HP:=Ai hp;have hp':Bi (Iz B.floor B.hs) B.hn=true:=hp;go_wp2_with (go_at_call 87;refine(MT B.now B.floor B.hn B.hs a1 a2 a3 B.on c1 c2 B.tn c3 wr lo hi hhw f2 f5 HI.h).mono ?_;rintro e w2⟨rfl,hb2⟩;rw[hp']);go_roundw;case rel=>exact⟨5,Za,by go_num,hb.trans (hb2.mono Za),λj hj=>(by
      rcases As j 4 with h3|h3;.exact HA j h3
      .have:j=4:=Za;subst this;exact HP)⟩
     case measure=>simp[intOf]
   .have g:wr.cell? ⟨w.1.size+1,5,none⟩=some (.func (.func 88) #[] #[]):=(hb.cell (p:=⟨w.1.size+1,5,none⟩) Zp).trans Ze;cases hp:Ht B 5 with
    |false=>have HE:=Ai (show Bi (Ht B) 7=false from A9 (show 5<7 by omega) hp);have hp':O7 B.floor B.on B.os B.hn B.hs=false:=hp;go_wp2_with (go_at_call 88;refine(QF B.now B.floor B.on B.hn B.os B.hs a1 a2 a3 c1 c2 B.tn c3 wr lo hi hhw f1 f2 f4 f5 HI.o HI.h).mono ?_;rintro e w2⟨rfl,hb2⟩;rw[hp']);exact LD
    |true=>
     have HP:=Ai hp;have hp':O7 B.floor B.on B.os B.hn B.hs=true:=hp;go_wp2_with (go_at_call 88;refine(QF B.now B.floor B.on B.hn B.os B.hs a1 a2 a3 c1 c2 B.tn c3 wr lo hi hhw f1 f2 f4 f5 HI.o HI.h).mono ?_;rintro e w2⟨rfl,hb2⟩;rw[hp']);go_roundw;case rel=>exact⟨6,Za,by go_num,hb.trans (hb2.mono Za),λj hj=>(by
      rcases As j 5 with h3|h3;.exact HA j h3
      .have:j=5:=Za;subst this;exact HP)⟩
     case measure=>simp[intOf]
   .have g:wr.cell? ⟨w.1.size+1,6,none⟩=some (.func (.func 89) #[] #[]):=(hb.cell (p:=⟨w.1.size+1,6,none⟩) Zp).trans Ze;cases hp:Ht B 6 with
    |false=>have HE:=Ai (show Bi (Ht B) 7=false from A9 (show 6<7 by omega) hp);have hp':Ku B.tn B.ts B.now=false:=hp;go_wp2_with (go_at_call 89;refine(NH B.now B.floor B.tn B.ts a1 a2 a3 B.on c1 B.hn c2 c3 wr lo hi hhw f3 f6 HI.t).mono ?_;rintro e w2⟨rfl,hb2⟩;rw[hp']);exact LD
    |true=>
     have HP:=Ai hp;have hp':Ku B.tn B.ts B.now=true:=hp;go_wp2_with (go_at_call 89;refine(NH B.now B.floor B.tn B.ts a1 a2 a3 B.on c1 B.hn c2 c3 wr lo hi hhw f3 f6 HI.t).mono ?_;rintro e w2⟨rfl,hb2⟩;rw[hp']);go_roundw;case rel=>exact⟨7,Za,by go_num,hb.trans (hb2.mono Za),λj hj=>(by
      rcases As j 6 with h3|h3;.exact HA j h3
      .have:j=6:=Za;subst this;exact HP)⟩
     case measure=>simp[intOf]
   .have HE:=Ai (show Bi (Ht B) 7=true from Bm.2 HA);go_wp2;go_ret;exact⟨Av HE.symm,hBw⟩
end Go.Proofs.YtllmmkchokkaaaaGreatDoor
namespace Go.Proofs.YtllmmkchokkaaaaGreatDoor
open Go.RowKit Go.Proofs.Tryz
/-! what a write comes to -/
theorem SF:∀a b:List UInt8,Op.bytesLess a b=false->¬a=b->Op.bytesLess b a=true
 |[],[],_,h=>absurd rfl h
 |[],_::_,h,_=>by simp[Op.bytesLess]at h
 |_::_,[],_,_=>rfl
 |x::a,y::b,h,hn=>by
  simp only[Op.bytesLess]at h⊢;by_cases e:x=y;.subst e;simp at h⊢;exact SF a b h (λe=>hn (by rw[e]))
  .simp[e]at h;have e2:¬y=x:=λq=>e q.symm;simp[e2];have h1:¬x.toNat<y.toNat:=by intro hh;exact absurd (UInt8.lt_iff_toNat_lt.2 hh) (by simpa using h)
   have h2:¬x.toNat=y.toNat:=λq=>e (UInt8.toNat_inj.1 q);exact UInt8.lt_iff_toNat_lt.2 Za
theorem Sg{a b:ByteArray}(h:D4 a b=false)(hn:¬a=b):D4 b a=true:=SF _ _ h (λe=>hn (DM e))
theorem Lu{x y z:Ob}(h1:DH x y=true)(h2:DH y z=true):DH x z=true:=by
 unfold DH at h1 h2⊢;by_cases e1:x.kind.toList=y.kind.toList
 .by_cases e2:y.kind.toList=z.kind.toList
  .rw[if_pos e1]at h1;rw[if_pos e2]at h2;rw[if_pos (e1.trans e2)];exact Gy h1 h2
  .rw[if_neg e2]at h2;rw[if_neg (λe=>e2 (e1.symm.trans e))];unfold D4 at h2⊢;rw[e1];exact h2
 .rw[if_neg e1]at h1;by_cases e2:y.kind.toList=z.kind.toList;.rw[if_neg (λe=>e1 (e.trans e2.symm))];unfold D4 at h1⊢;rw[<-e2];exact h1
  .rw[if_neg e2]at h2;have h3:=Gy h1 h2;by_cases e3:x.kind.toList=z.kind.toList;.rw[GJ e3]at h3;cases h3
   .rw[if_neg e3];exact h3
def bE (n:Nat)(x:Nat->Ob):Prop:=∀i j,i<j->j<n->DH (x i) (x j)=true
def EX (n:Nat)(s:Nat->ByteArray):Prop:=∀i j,i<j->j<n->D4 (s i) (s j)=true
theorem eO{n:Nat}{x:Nat->Ob}(h:Ih n x=true):bE n x:=by unfold Ih at h;rw[Bm]at h;intro i j;induction j with
 |zero=>intro h1;omega
 |succ j ih=>
  intro h1 h2;have hj:=h (j+1) h2;simp at hj;rcases As i j with h3|h3;.exact Lu (ih h3 Za) hj
  .obtain rfl:i=j:=Za;exact hj
theorem iU{n:Nat}{s:Nat->ByteArray}(h:Yx n s=true):EX n s:=by rw[JJ,AG]at h;have h:=h.1;unfold X4 at h;rw[Bm]at h;intro i j;induction j with
 |zero=>intro h1;omega
 |succ j ih=>
  intro h1 h2;have hj:=h (j+1) h2;simp at hj;rcases As i j with h3|h3;.exact Gy (ih h3 Za) hj
  .obtain rfl:i=j:=Za;exact hj
def DY (s:Nat->ByteArray)(a:ByteArray):Nat->Nat
 |0=>0
 |n+1=>if DY s a n=n/\D4 (s n) a=true then n+1 else DY s a n
theorem I5 (s:Nat->ByteArray)(a:ByteArray):∀n,DY s a n<=n/\(∀j,j<DY s a n->D4 (s j) a=true)/\(DY s a n<n->D4 (s (DY s a n)) a=false)
 |0=>⟨Aw _,λj hj=>absurd hj (Al _),λh=>absurd h (Al _)⟩
 |n+1=>by
  obtain⟨h1,h2,h3⟩:=I5 s a n;unfold DY;by_cases e:DY s a n=n/\D4 (s n) a=true
  .rw[if_pos e];refine⟨Aw _,λj hj=>?_,λh=>absurd h (Bt _)⟩;rcases As j n with h|h;.exact h2 j Za
   .obtain rfl:j=n:=Za;exact e.2
  .rw[if_neg e];refine⟨Za,h2,λ_=>?_⟩;rcases As (DY s a n) n with h|h;.exact h3 h
   .have e1:DY s a n=n:=Za;rw[e1];cases hx:D4 (s n) a with
    |false=>rfl
    |true=>exact absurd ⟨e1,hx⟩ e
theorem PW{s:Nat->ByteArray}{a:ByteArray}{n i:Nat}(hi:i<=n)(h1:∀j,j<i->D4 (s j) a=true)(h2:i<n->D4 (s i) a=false):DY s a n=i:=by
 obtain⟨g1,g2,g3⟩:=I5 s a n;rcases DQ (DY s a n) i with h|h|h;.have e1:=h1 _ h;rw[g3 Za]at e1;cases e1
 .exact h
 .have e1:=g2 _ h;rw[h2 Za]at e1;cases e1
def Nq (s:Nat->ByteArray)(k:Nat)(a:ByteArray):Nat->ByteArray:=λj=>if j<k then s j else if j=k then a else s (j-1)
def JC (s:Nat->ByteArray)(k:Nat):Nat->ByteArray:=λj=>if j<k then s j else s (j+1)
theorem UW{n:Nat}{s:Nat->ByteArray}{a:ByteArray}(h:EX n s):D2 n s a=(decide (DY s a n<n)&&decide (s (DY s a n)=a)):=by
 obtain⟨g1,g2,g3⟩:=I5 s a n;by_cases e:DY s a n<n/\s (DY s a n)=a
 .rw[O5 e.1 e.2];simp[e.1,e.2]
 .rw[WG (λi hi q=>e ?_)]
  .symm;rw[Jv];by_cases e1:DY s a n<n;.exact Ax (by simpa using λq=>e ⟨e1,q⟩)
   .exact AD (by simpa using e1)
  .have hr:DY s a n=i:=by
    refine PW (Br hi) (λj hj=>?_) (λ_=>?_);.rw[<-q];exact h j i hj hi
    .rw[q];exact GJ rfl
   rw[hr];exact⟨hi,q⟩
def BJ (B:Bk)(v:Wr):Ob:=Cv B.os v.kind v.name B.on
def CA (B:Bk)(v:Wr):Int:=if Cw B.os v.kind v.name B.on=decide (v.op=1)then 3 else if¬v.seen=0/\¬v.seen=(BJ B v).ver then 4 else if(BJ B v).ending=true/\¬v.op=5 then 5 else if v.op=1 then(if 100<=B.on then 7 else 0)else if v.op=4 then(if D2 (BJ B v).hn (BJ B v).hs v.hold=true then 6 else if 5<=(BJ B v).hn then 7 else 0)else if v.op=5 then(if D2 (BJ B v).hn (BJ B v).hs v.hold=true then 0 else 6)else 0
def Bd (B:Bk)(v:Wr):Int:=if CA B v=0 then(if 1000000<=B.now then 8 else 0)else CA B v
def Gz (B:Bk)(v:Wr):Int:=if CA B v=4 then(BJ B v).ver else 0
def C4 (B:Bk)(v:Wr)(ve:Int):Ob:=if v.op=1 then⟨v.kind,v.name,ve,B.now+1,v.text,false,if LN v.hold then 0 else 1,λ_=>v.hold⟩else if v.op=2 then⟨(BJ B v).kind,(BJ B v).name,ve,(BJ B v).born,v.text,(BJ B v).ending,(BJ B v).hn,(BJ B v).hs⟩else if v.op=3 then⟨(BJ B v).kind,(BJ B v).name,ve,(BJ B v).born,(BJ B v).text,true,(BJ B v).hn,(BJ B v).hs⟩else if v.op=4 then⟨(BJ B v).kind,(BJ B v).name,ve,(BJ B v).born,(BJ B v).text,(BJ B v).ending,(BJ B v).hn+1,Nq (BJ B v).hs (DY (BJ B v).hs v.hold (BJ B v).hn) v.hold⟩else⟨(BJ B v).kind,(BJ B v).name,ve,(BJ B v).born,(BJ B v).text,(BJ B v).ending,(BJ B v).hn-1,JC (BJ B v).hs (DY (BJ B v).hs v.hold (BJ B v).hn)⟩
def C7 (B:Bk)(v:Wr):Ob:=C4 B v (B.now+1)
def CS (B:Bk)(v:Wr):Bool:=!CX (C7 B v)
def Dc (B:Bk)(v:Wr):Ch:=⟨B.now+1,CS B v,C7 B v⟩
def Ck (B:Bk):Nat:=if B.hn=200 then 1 else 0
def tW (B:Bk)(c:Ch):Nat->Ch:=λi=>if i<B.hn-Ck B then B.hs (i+Ck B)else c
def FI (B:Bk)(v:Wr):Bk:={now:=B.now+1,floor:=if B.hn=200 then(B.hs 0).ver else B.floor,on:=(Ep B.on B.os (C7 B v) (CS B v)).m,os:=(Ep B.on B.os (C7 B v) (CS B v)).y,hn:=B.hn-Ck B+1,hs:=tW B (Dc B v),tn:=B.tn,ts:=B.ts}
structure Hp (B:Bk)(v:Wr):Prop where
 fit:Cx B
 now0:0<=B.now
 now1:B.now<=1000000
 on:B.on<=100
 hn:B.hn<=200
 asc:bE B.on B.os
 hold:∀i,i<B.on->(B.os i).hn<=5/\EX (B.os i).hn (B.os i).hs
 wr:Er v=true
 wf:Kq v
theorem eB{B:Bk}{v:Wr}(hf:Cx B)(hv:Bi (Ht B) 7=true)(hw:Er v=true)(wf:Kq v):Hp B v:=by rw[Bm]at hv;have c0:J9 B.now B.floor=true:=hv 0 Za;have c1:DW B.on B.os B.now=true:=hv 1 Za;have c3:Fh B.now B.floor B.hn B.hs=true:=hv 3 Za;unfold J9 at c0;unfold DW at c1;unfold Fh at c3;rw[AG]at c0 c1 c3;rw[AG]at c1;have n0:=qS c0.1;refine⟨hf,n0.1,n0.2,of_decide_eq_true c1.1,of_decide_eq_true c3.1,eO c1.2.1,λi hi=>?_,hw,wf⟩;have h:=Bm.1 c1.2.2 i hi;rw[AG]at h;have h:=h.1;unfold BM at h;simp only[AG]at h;have h:=h.2.2.2.2.2;unfold Em at h;rw[AG]at h;exact⟨of_decide_eq_true h.1,iU h.2⟩
def Ro (B:Bk)(v:Wr)(i:Nat):Prop:=i<=B.on/\(∀j,j<i->GI B.os v.kind v.name j<0)/\(∀j,i<=j->j<B.on->¬GI B.os v.kind v.name j<0)
theorem Q0 (x:Nat->Ob)(ki na:ByteArray)(i:Nat)(o:Ob)(hk:o.kind=ki)(hn:o.name=na):GI x ki na i=Eo (x i) o:=by subst hk hn;exact lS x o i
def tL (v:Wr):Ob:=⟨v.kind,v.name,0,0,v.text,false,0,λ_=>v.hold⟩
theorem fU{B:Bk}{v:Wr}(h:Hp B v):∀i j,i<j->j<B.on->GI B.os v.kind v.name j<0->GI B.os v.kind v.name i<0:=λi j h1 h2 h3=>by rw[Q0 B.os v.kind v.name j (tL v) rfl rfl]at h3;rw[Q0 B.os v.kind v.name i (tL v) rfl rfl];exact(Hv _ _).2 (Lu (h.asc i j h1 h2) ((Hv _ _).1 h3))
theorem Pb{x:Nat->Ob}{a b:ByteArray}:∀{n:Nat},(∀i,i<n->¬((x i).kind=a/\(x i).name=b))->JS x a b n=none
 |0,_=>rfl
 |n+1,h=>KF (Pb λi hi=>h i Za) (h n Za)
theorem Lx (x:Nat->Ob)(ki na:ByteArray)(i:Nat):GI x ki na i=0↔((x i).kind=ki/\(x i).name=na):=by rw[Q0 x ki na i ⟨ki,na,0,0,ki,false,0,λ_=>ki⟩ rfl rfl,KT];exact⟨λh=>⟨DM h.1,DM h.2⟩,λh=>⟨congrArg _ h.1,congrArg _ h.2⟩⟩
theorem Gw{B:Bk}{v:Wr}(h:Hp B v){i:Nat}(hp:Ro B v i):JS B.os v.kind v.name B.on=if i<B.on/\GI B.os v.kind v.name i=0 then some i else none:=by
 by_cases e:i<B.on/\GI B.os v.kind v.name i=0
 .rw[if_pos e];have h1:JS B.os v.kind v.name i=none:=Pb λj hj q=>by have:=hp.2.1 j hj;rw[(Lx _ _ _ _).2 q]at this;omega
  exact Pn (Mp h1 ((Lx _ _ _ _).1 e.2)) (Nat.succ_le_of_lt e.1)
 .rw[if_neg e];refine Pb λj hj q=>?_;have h0:=(Lx _ _ _ _).2 q;rcases As j i with h1|h1;.have:=hp.2.1 j h1;omega
  .rcases As i j with h2|h2;.have h3:=hp.2.2 i Bj Za;have h4:=h.asc i j h2 hj;rw[Q0 B.os v.kind v.name i (tL v) rfl rfl,Hv]at h3;refine h3 ?_;have e1:(B.os j).kind=(tL v).kind:=q.1;have e2:(B.os j).name=(tL v).name:=q.2;unfold DH at h4⊢;rw[e1,e2]at h4;exact h4
   .obtain rfl:i=j:=Za;exact e ⟨hj,h0⟩
end Go.Proofs.YtllmmkchokkaaaaGreatDoor
namespace Go.Proofs.YtllmmkchokkaaaaGreatDoor
open Go.RowKit Go.Proofs.Tryz
structure CK (w:World)(D K:Nat)(v:Wr)(pl:Int)(fo:Bool):Prop where
 c0:w.cell? ⟨D,0,none⟩=some (.p K 0)c1:w.cell? ⟨D,1,none⟩=some (.i v.op)c2:w.cell? ⟨D,2,none⟩=some (.s v.kind)c3:w.cell? ⟨D,3,none⟩=some (.s v.name)c4:w.cell? ⟨D,4,none⟩=some (.i v.seen)c5:w.cell? ⟨D,5,none⟩=some (.s v.text)c6:w.cell? ⟨D,6,none⟩=some (.s v.hold)c7:w.cell? ⟨D,7,none⟩=some (.i pl)c8:w.cell? ⟨D,8,none⟩=some (.bool fo)
theorem CK.grow{w w':World}{D K:Nat}{v:Wr}{pl:Int}{fo:Bool}(h:CK w D K v pl fo)(hb:Below w.1.size w w')(hD:D<w.1.size):CK w' D K v pl fo:=⟨(hb.cell (p:=⟨D,0,none⟩) hD).trans h.c0,(hb.cell (p:=⟨D,1,none⟩) hD).trans h.c1,(hb.cell (p:=⟨D,2,none⟩) hD).trans h.c2,(hb.cell (p:=⟨D,3,none⟩) hD).trans h.c3,(hb.cell (p:=⟨D,4,none⟩) hD).trans h.c4,(hb.cell (p:=⟨D,5,none⟩) hD).trans h.c5,(hb.cell (p:=⟨D,6,none⟩) hD).trans h.c6,(hb.cell (p:=⟨D,7,none⟩) hD).trans h.c7,(hb.cell (p:=⟨D,8,none⟩) hD).trans h.c8⟩
theorem CK.fr{w w':World}{P:Nat->Prop}{D K:Nat}{v:Wr}{pl:Int}{fo:Bool}(h:CK w D K v pl fo)(hb:AP P w w')(hD:D<w.1.size)(hp:¬P D):CK w' D K v pl fo:=⟨(hb.cell (p:=⟨D,0,none⟩) hD hp).trans h.c0,(hb.cell (p:=⟨D,1,none⟩) hD hp).trans h.c1,(hb.cell (p:=⟨D,2,none⟩) hD hp).trans h.c2,(hb.cell (p:=⟨D,3,none⟩) hD hp).trans h.c3,(hb.cell (p:=⟨D,4,none⟩) hD hp).trans h.c4,(hb.cell (p:=⟨D,5,none⟩) hD hp).trans h.c5,(hb.cell (p:=⟨D,6,none⟩) hD hp).trans h.c6,(hb.cell (p:=⟨D,7,none⟩) hD hp).trans h.c7,(hb.cell (p:=⟨D,8,none⟩) hD hp).trans h.c8⟩
theorem BL{w w1:World}{o:Obj}(hb:Below (w.alloc o).1.size (w.alloc o) w1):Below w.1.size w w1/\w.1.size<w1.1.size:=⟨(Ae _ _).trans (hb.mono Ze),by have:=hb.size;simp at this;omega⟩
theorem TD (D K:Nat)(v:Wr)(pl:Int)(w:World)(hD:D<w.1.size)(hd:CK w D K v pl false):Calls prog 157 #[.p D 0] w λe w'=>e=.returned (.tuple #[.agg #[.s ⟨#[]⟩,.s ⟨#[]⟩,.i 0,.i 0,.s ⟨#[]⟩,.bool false,.l none 0 0],.iface 90 (.agg #[.i 3,.i 0])])/\Below w.1.size w w':=by obtain⟨c0,c1,c2,c3,c4,c5,c6,c7,c8⟩:=hd;go_enter func157,ntmps157;go_wp2;refine bodyPost_ret (v:=.tuple #[.agg #[.s ⟨#[]⟩,.s ⟨#[]⟩,.i 0,.i 0,.s ⟨#[]⟩,.bool false,.l none 0 0],.iface 90 (.agg #[.i 3,.i 0])]) (by simp[results,results157,go_sem]) rfl ⟨rfl,Ae _ _⟩
theorem Pv (D K:Nat)(v:Wr)(pl:Nat)(n:Nat)(x:Ob)(g:Nat)(A:OA)(C cap:Nat)(w:World)(hg:g<w.1.size)(hD:D<w.1.size)(hK:K<w.1.size)(hd:CK w D K v pl true)(hk:w.cell? ⟨K,2,none⟩=some (.slice (some ⟨g,0,none⟩) n cap))(hpn:pl<n)(_hl:(n:Int)<=1099511627776)(hc:DC w g (pl*7) x A C)(hs:¬v.seen=0)(hv:¬v.seen=x.ver):Calls prog 157 #[.p D 0] w λe w'=>e=.returned (.tuple #[.agg #[.s ⟨#[]⟩,.s ⟨#[]⟩,.i 0,.i 0,.s ⟨#[]⟩,.bool false,.l none 0 0],.iface 90 (.agg #[.i 4,.i x.ver])])/\Below w.1.size w w':=by
 obtain⟨c0,c1,c2,c3,c4,c5,c6,c7,c8⟩:=hd;obtain⟨d0,d1,d2,d3,d4,d5,d6⟩:=hc;have hsb:(v.seen !=0)=true:=by simp[hs]
 have hvb:(v.seen !=x.ver)=true:=by simp[hv]
 go_enter func157,ntmps157;go_wp2;go_region;go_wp2;go_region;go_wp2;go_region;go_wp2;refine bodyPost_ret (v:=.tuple #[.agg #[.s ⟨#[]⟩,.s ⟨#[]⟩,.i 0,.i 0,.s ⟨#[]⟩,.bool false,.l none 0 0],.iface 90 (.agg #[.i 4,.i x.ver])]) (by simp[results,results157,go_sem]) rfl ⟨rfl,by repeat(first|exact Ak _ _|refine Bb ?_|refine AJ ?_ Ze _|refine Ba ?_ Zo _)⟩
theorem aW{P:Prop}(h:P:=by clear hs;go_enter func157,ntmps157;go_wp2;go_region;go_wp2;go_region;go_wp2;refine bodyPost_ret (v:=.tuple #[.agg (vO x A C),.nilIface]) (by simp[results,results157,go_sem]) rfl ⟨rfl,by repeat(first|exact Ak _ _|refine Bb ?_|refine AJ ?_ Ze _|refine Ba ?_ Zo _)⟩):P:=h
theorem TS (D K:Nat)(v:Wr)(pl:Nat)(n:Nat)(x:Ob)(g:Nat)(A:OA)(C cap:Nat)(w:World)(hg:g<w.1.size)(hD:D<w.1.size)(hK:K<w.1.size)(hd:CK w D K v pl true)(hk:w.cell? ⟨K,2,none⟩=some (.slice (some ⟨g,0,none⟩) n cap))(hpn:pl<n)(_hl:(n:Int)<=1099511627776)(hc:DC w g (pl*7) x A C)(hs:v.seen=0\/v.seen=x.ver):Calls prog 157 #[.p D 0] w λe w'=>e=.returned (.tuple #[.agg (vO x A C),.nilIface])/\Below w.1.size w w':=by
 obtain⟨op,ki,na,se,te,ho⟩:=v;obtain⟨c0,c1,c2,c3,c4,c5,c6,c7,c8⟩:=hd;dsimp only at c1 c2 c3 c4 c5 c6 hs;obtain⟨d0,d1,d2,d3,d4,d5,d6⟩:=hc;by_cases h0:se=0;.subst h0;exact aW
 .have hv:se=x.ver:=by
   rcases hs with h|h;.exact absurd h h0
   .exact h
  subst hv;have hsb:(x.ver !=0)=true:=by simp[h0]
  exact aW
theorem FK (D:Nat)(c d:Int)(w:World)(hs:∀o:Obj,Calls prog 157 #[.p D 0] (w.alloc o) λe w'=>e=.returned (.tuple #[.agg #[.s ⟨#[]⟩,.s ⟨#[]⟩,.i 0,.i 0,.s ⟨#[]⟩,.bool false,.l none 0 0],.iface 90 (.agg #[.i c,.i d])])/\Below (w.alloc o).1.size (w.alloc o) w'):Calls prog 154 #[.p D 0] w λe w'=>e=.returned (.tuple #[.agg #[.s ⟨#[]⟩,.s ⟨#[]⟩,.i 0,.i 0,.s ⟨#[]⟩,.bool false,.l none 0 0],.iface 90 (.agg #[.i c,.i d])])/\Below w.1.size w w':=by have HS:=Ai hs;clear hs;go_enter func154,ntmps154;go_wp2_with fail;refine(HS _).mono ?_;rintro e w1 ⟨rfl,hb1⟩;have z1:=(BL hb1).2;have b1:=(BL hb1).1;have r1:=AS (w:=w) (l:=[.s ⟨#[]⟩,.s ⟨#[]⟩,.i 0,.i 0,.s ⟨#[]⟩,.bool false,.l none 0 0]) (t:=118) hb1;have q0:=r1.cell 0 Zb;have q1:=r1.cell 1 Zb;have q2:=r1.cell 2 Zb;have q3:=r1.cell 3 Zb;have q4:=r1.cell 4 Zb;have q5:=r1.cell 5 Zb;have q6:=r1.cell 6 Zb;have qf:=r1.free;clear hb1 r1;simp only[Bg,Af,Ag]at q0 q1 q2 q3 q4 q5 q6;go_wp2;refine bodyPost_ret (v:=.tuple #[.agg #[.s ⟨#[]⟩,.s ⟨#[]⟩,.i 0,.i 0,.s ⟨#[]⟩,.bool false,.l none 0 0],.iface 90 (.agg #[.i c,.i d])]) (by simp[results,results154,go_sem,q0,q1,q2,q3,q4,q5,q6,z1]) rfl ⟨rfl,by repeat(first|with_reducible exact b1|with_reducible refine AJ ?_ Zo _|with_reducible refine Ba ?_ Zo _|with_reducible refine Bb ?_)⟩
theorem Ky (D:Nat)(x:Ob)(A:OA)(C:Nat)(w:World)(hs:∀o:Obj,Calls prog 157 #[.p D 0] (w.alloc o) λe w'=>e=.returned (.tuple #[.agg (vO x A C),.nilIface])/\Below (w.alloc o).1.size (w.alloc o) w')(he:x.ending=true):Calls prog 154 #[.p D 0] w λe w'=>e=.returned (.tuple #[.agg #[.s ⟨#[]⟩,.s ⟨#[]⟩,.i 0,.i 0,.s ⟨#[]⟩,.bool false,.l none 0 0],.iface 90 (.agg #[.i 5,.i 0])])/\Below w.1.size w w':=by have HS:=Ai hs;clear hs;go_enter func154,ntmps154;go_wp2_with fail;refine(HS _).mono ?_;rintro e w1 ⟨rfl,hb1⟩;unfold vO;rw[he];have z1:=(BL hb1).2;have b1:=(BL hb1).1;have r1:=AS (w:=w) (l:=[.s ⟨#[]⟩,.s ⟨#[]⟩,.i 0,.i 0,.s ⟨#[]⟩,.bool false,.l none 0 0]) (t:=118) hb1;have q0:=r1.cell 0 Zb;have q1:=r1.cell 1 Zb;have q2:=r1.cell 2 Zb;have q3:=r1.cell 3 Zb;have q4:=r1.cell 4 Zb;have q5:=r1.cell 5 Zb;have q6:=r1.cell 6 Zb;have qf:=r1.free;clear hb1 r1;simp only[Bg,Af,Ag]at q0 q1 q2 q3 q4 q5 q6;go_wp2;refine bodyPost_ret (v:=.tuple #[.agg #[.s ⟨#[]⟩,.s ⟨#[]⟩,.i 0,.i 0,.s ⟨#[]⟩,.bool false,.l none 0 0],.iface 90 (.agg #[.i 5,.i 0])]) (by simp[results,results154,go_sem,q0,q1,q2,q3,q4,q5,q6,z1]) rfl ⟨rfl,by repeat(first|with_reducible exact b1|with_reducible refine AJ ?_ Zo _|with_reducible refine Ba ?_ Zo _|with_reducible refine Bb ?_)⟩
theorem LQ (D:Nat)(x:Ob)(A:OA)(C:Nat)(w:World)(hs:∀o:Obj,Calls prog 157 #[.p D 0] (w.alloc o) λe w'=>e=.returned (.tuple #[.agg (vO x A C),.nilIface])/\Below (w.alloc o).1.size (w.alloc o) w')(he:x.ending=false):Calls prog 154 #[.p D 0] w λe w'=>e=.returned (.tuple #[.agg (vO x A C),.nilIface])/\Below w.1.size w w':=by have HS:=Ai hs;clear hs;go_enter func154,ntmps154;go_wp2_with fail;refine(HS _).mono ?_;rintro e w1 ⟨rfl,hb1⟩;unfold vO;rw[he];have z1:=(BL hb1).2;have b1:=(BL hb1).1;have r1:=AS (w:=w) (l:=[.s ⟨#[]⟩,.s ⟨#[]⟩,.i 0,.i 0,.s ⟨#[]⟩,.bool false,.l none 0 0]) (t:=118) hb1;have q0:=r1.cell 0 Zb;have q1:=r1.cell 1 Zb;have q2:=r1.cell 2 Zb;have q3:=r1.cell 3 Zb;have q4:=r1.cell 4 Zb;have q5:=r1.cell 5 Zb;have q6:=r1.cell 6 Zb;have qf:=r1.free;clear hb1 r1;simp only[Bg,Af,Ag]at q0 q1 q2 q3 q4 q5 q6;go_wp2;refine bodyPost_ret (v:=.tuple #[.agg #[.s x.kind,.s x.name,.i x.ver,.i x.born,.s x.text,.bool false,.l A x.hn C],.nilIface]) (by simp[results,results154,go_sem,q0,q1,q2,q3,q4,q5,q6,z1]) rfl ⟨by unfold vO;rw[he],by repeat(first|with_reducible exact b1|with_reducible refine AJ ?_ Zo _|with_reducible refine Ba ?_ Zo _|with_reducible refine Bb ?_)⟩
theorem LT (D:Nat)(c d:Int)(w:World)(hs:∀o:Obj,Calls prog 154 #[.p D 0] (w.alloc o) λe w'=>e=.returned (.tuple #[.agg #[.s ⟨#[]⟩,.s ⟨#[]⟩,.i 0,.i 0,.s ⟨#[]⟩,.bool false,.l none 0 0],.iface 90 (.agg #[.i c,.i d])])/\Below (w.alloc o).1.size (w.alloc o) w'):Calls prog 98 #[.p D 0] w λe w'=>e=.returned (.tuple #[.agg #[.s ⟨#[]⟩,.s ⟨#[]⟩,.i 0,.i 0,.s ⟨#[]⟩,.bool false,.l none 0 0],.iface 90 (.agg #[.i c,.i d])])/\Below w.1.size w w':=by have HS:=Ai hs;clear hs;go_enter func98,ntmps98;go_wp2_with fail;refine(HS _).mono ?_;rintro e w1 ⟨rfl,hb1⟩;have z1:=(BL hb1).2;have b1:=(BL hb1).1;have r1:=AS (w:=w) (l:=[.s ⟨#[]⟩,.s ⟨#[]⟩,.i 0,.i 0,.s ⟨#[]⟩,.bool false,.l none 0 0]) (t:=118) hb1;have q0:=r1.cell 0 Zb;have q1:=r1.cell 1 Zb;have q2:=r1.cell 2 Zb;have q3:=r1.cell 3 Zb;have q4:=r1.cell 4 Zb;have q5:=r1.cell 5 Zb;have q6:=r1.cell 6 Zb;have qf:=r1.free;clear hb1 r1;simp only[Bg,Af,Ag]at q0 q1 q2 q3 q4 q5 q6;go_wp2;refine bodyPost_ret (v:=.tuple #[.agg #[.s ⟨#[]⟩,.s ⟨#[]⟩,.i 0,.i 0,.s ⟨#[]⟩,.bool false,.l none 0 0],.iface 90 (.agg #[.i c,.i d])]) (by simp[results,results98,go_sem,q0,q1,q2,q3,q4,q5,q6,z1]) rfl ⟨rfl,by repeat(first|with_reducible exact b1|with_reducible refine AJ ?_ Zo _|with_reducible refine Ba ?_ Zo _|with_reducible refine Bb ?_)⟩
theorem RM (D:Nat)(c d:Int)(w:World)(hs:∀o:Obj,Calls prog 154 #[.p D 0] (w.alloc o) λe w'=>e=.returned (.tuple #[.agg #[.s ⟨#[]⟩,.s ⟨#[]⟩,.i 0,.i 0,.s ⟨#[]⟩,.bool false,.l none 0 0],.iface 90 (.agg #[.i c,.i d])])/\Below (w.alloc o).1.size (w.alloc o) w'):Calls prog 99 #[.p D 0] w λe w'=>e=.returned (.tuple #[.agg #[.s ⟨#[]⟩,.s ⟨#[]⟩,.i 0,.i 0,.s ⟨#[]⟩,.bool false,.l none 0 0],.iface 90 (.agg #[.i c,.i d])])/\Below w.1.size w w':=by have HS:=Ai hs;clear hs;go_enter func99,ntmps99;go_wp2_with fail;refine(HS _).mono ?_;rintro e w1 ⟨rfl,hb1⟩;have z1:=(BL hb1).2;have b1:=(BL hb1).1;have r1:=AS (w:=w) (l:=[.s ⟨#[]⟩,.s ⟨#[]⟩,.i 0,.i 0,.s ⟨#[]⟩,.bool false,.l none 0 0]) (t:=118) hb1;have q0:=r1.cell 0 Zb;have q1:=r1.cell 1 Zb;have q2:=r1.cell 2 Zb;have q3:=r1.cell 3 Zb;have q4:=r1.cell 4 Zb;have q5:=r1.cell 5 Zb;have q6:=r1.cell 6 Zb;have qf:=r1.free;clear hb1 r1;simp only[Bg,Af,Ag]at q0 q1 q2 q3 q4 q5 q6;go_wp2;refine bodyPost_ret (v:=.tuple #[.agg #[.s ⟨#[]⟩,.s ⟨#[]⟩,.i 0,.i 0,.s ⟨#[]⟩,.bool false,.l none 0 0],.iface 90 (.agg #[.i c,.i d])]) (by simp[results,results99,go_sem,q0,q1,q2,q3,q4,q5,q6,z1]) rfl ⟨rfl,by repeat(first|with_reducible exact b1|with_reducible refine AJ ?_ Zo _|with_reducible refine Ba ?_ Zo _|with_reducible refine Bb ?_)⟩
theorem Po (D:Nat)(c d:Int)(w:World)(hs:∀o:Obj,Calls prog 154 #[.p D 0] (w.alloc o) λe w'=>e=.returned (.tuple #[.agg #[.s ⟨#[]⟩,.s ⟨#[]⟩,.i 0,.i 0,.s ⟨#[]⟩,.bool false,.l none 0 0],.iface 90 (.agg #[.i c,.i d])])/\Below (w.alloc o).1.size (w.alloc o) w'):Calls prog 100 #[.p D 0] w λe w'=>e=.returned (.tuple #[.agg #[.s ⟨#[]⟩,.s ⟨#[]⟩,.i 0,.i 0,.s ⟨#[]⟩,.bool false,.l none 0 0],.iface 90 (.agg #[.i c,.i d])])/\Below w.1.size w w':=by have HS:=Ai hs;clear hs;go_enter func100,ntmps100;go_wp2_with fail;refine(HS _).mono ?_;rintro e w1 ⟨rfl,hb1⟩;have z1:=(BL hb1).2;have b1:=(BL hb1).1;have r1:=AS (w:=w) (l:=[.s ⟨#[]⟩,.s ⟨#[]⟩,.i 0,.i 0,.s ⟨#[]⟩,.bool false,.l none 0 0]) (t:=118) hb1;have q0:=r1.cell 0 Zb;have q1:=r1.cell 1 Zb;have q2:=r1.cell 2 Zb;have q3:=r1.cell 3 Zb;have q4:=r1.cell 4 Zb;have q5:=r1.cell 5 Zb;have q6:=r1.cell 6 Zb;have qf:=r1.free;clear hb1 r1;simp only[Bg,Af,Ag]at q0 q1 q2 q3 q4 q5 q6;go_wp2;refine bodyPost_ret (v:=.tuple #[.agg #[.s ⟨#[]⟩,.s ⟨#[]⟩,.i 0,.i 0,.s ⟨#[]⟩,.bool false,.l none 0 0],.iface 90 (.agg #[.i c,.i d])]) (by simp[results,results100,go_sem,q0,q1,q2,q3,q4,q5,q6,z1]) rfl ⟨rfl,by repeat(first|with_reducible exact b1|with_reducible refine AJ ?_ Zo _|with_reducible refine Ba ?_ Zo _|with_reducible refine Bb ?_)⟩
theorem QY (D:Nat)(c d:Int)(w:World)(hs:∀o:Obj,Calls prog 157 #[.p D 0] (w.alloc o) λe w'=>e=.returned (.tuple #[.agg #[.s ⟨#[]⟩,.s ⟨#[]⟩,.i 0,.i 0,.s ⟨#[]⟩,.bool false,.l none 0 0],.iface 90 (.agg #[.i c,.i d])])/\Below (w.alloc o).1.size (w.alloc o) w'):Calls prog 101 #[.p D 0] w λe w'=>e=.returned (.tuple #[.agg #[.s ⟨#[]⟩,.s ⟨#[]⟩,.i 0,.i 0,.s ⟨#[]⟩,.bool false,.l none 0 0],.iface 90 (.agg #[.i c,.i d])])/\Below w.1.size w w':=by have HS:=Ai hs;clear hs;go_enter func101,ntmps101;go_wp2_with fail;refine(HS _).mono ?_;rintro e w1 ⟨rfl,hb1⟩;have z1:=(BL hb1).2;have b1:=(BL hb1).1;have r1:=AS (w:=w) (l:=[.s ⟨#[]⟩,.s ⟨#[]⟩,.i 0,.i 0,.s ⟨#[]⟩,.bool false,.l none 0 0]) (t:=118) hb1;have q0:=r1.cell 0 Zb;have q1:=r1.cell 1 Zb;have q2:=r1.cell 2 Zb;have q3:=r1.cell 3 Zb;have q4:=r1.cell 4 Zb;have q5:=r1.cell 5 Zb;have q6:=r1.cell 6 Zb;have qf:=r1.free;clear hb1 r1;simp only[Bg,Af,Ag]at q0 q1 q2 q3 q4 q5 q6;go_wp2;refine bodyPost_ret (v:=.tuple #[.agg #[.s ⟨#[]⟩,.s ⟨#[]⟩,.i 0,.i 0,.s ⟨#[]⟩,.bool false,.l none 0 0],.iface 90 (.agg #[.i c,.i d])]) (by simp[results,results101,go_sem,q0,q1,q2,q3,q4,q5,q6,z1]) rfl ⟨rfl,by repeat(first|with_reducible exact b1|with_reducible refine AJ ?_ Zo _|with_reducible refine Ba ?_ Zo _|with_reducible refine Bb ?_)⟩
theorem XU (D K:Nat)(v:Wr)(pl:Int)(fo:Bool)(x:Ob)(A:OA)(C:Nat)(w:World)(hD:D<w.1.size)(hd:CK w D K v pl fo)(hs:∀o:Obj,Calls prog 154 #[.p D 0] (w.alloc o) λe w'=>e=.returned (.tuple #[.agg (vO x A C),.nilIface])/\Below (w.alloc o).1.size (w.alloc o) w'):Calls prog 98 #[.p D 0] w λe w'=>e=.returned (.tuple #[.agg #[.s x.kind,.s x.name,.i x.ver,.i x.born,.s v.text,.bool x.ending,.l A x.hn C],.nilIface])/\Below w.1.size w w':=by have HD:=Ai hd;clear hd;have HS:=Ai hs;clear hs;go_enter func98,ntmps98;go_wp2_with fail;refine(HS _).mono ?_;rintro e w1 ⟨rfl,hb1⟩;have z1:=(BL hb1).2;have b1:=(BL hb1).1;have r1:=AS (w:=w) (l:=[.s ⟨#[]⟩,.s ⟨#[]⟩,.i 0,.i 0,.s ⟨#[]⟩,.bool false,.l none 0 0]) (t:=118) hb1;have q0:=r1.cell 0 Zb;have q1:=r1.cell 1 Zb;have q2:=r1.cell 2 Zb;have q3:=r1.cell 3 Zb;have q4:=r1.cell 4 Zb;have q5:=r1.cell 5 Zb;have q6:=r1.cell 6 Zb;have qf:=r1.free;clear hb1 r1;simp only[Bg,Af,Ag]at q0 q1 q2 q3 q4 q5 q6;have zz:D<w1.1.size:=Za;obtain⟨c0,c1,c2,c3,c4,c5,c6,c7,c8⟩:=HD.grow b1 hD;go_wp2;refine bodyPost_ret (v:=.tuple #[.agg #[.s x.kind,.s x.name,.i x.ver,.i x.born,.s v.text,.bool x.ending,.l A x.hn C],.nilIface]) (by simp[results,results98,go_sem,q0,q1,q2,q3,q4,q5,q6,z1]) rfl ⟨rfl,by repeat(first|with_reducible exact b1|with_reducible refine AJ ?_ Zo _|with_reducible refine Ba ?_ Zo _|with_reducible refine Bb ?_)⟩
theorem rF (D K:Nat)(v:Wr)(pl:Int)(fo:Bool)(x:Ob)(A:OA)(C:Nat)(w:World)(hD:D<w.1.size)(hd:CK w D K v pl fo)(hs:∀o:Obj,Calls prog 154 #[.p D 0] (w.alloc o) λe w'=>e=.returned (.tuple #[.agg (vO x A C),.nilIface])/\Below (w.alloc o).1.size (w.alloc o) w'):Calls prog 99 #[.p D 0] w λe w'=>e=.returned (.tuple #[.agg #[.s x.kind,.s x.name,.i x.ver,.i x.born,.s x.text,.bool true,.l A x.hn C],.nilIface])/\Below w.1.size w w':=by have HD:=Ai hd;clear hd;have HS:=Ai hs;clear hs;go_enter func99,ntmps99;go_wp2_with fail;refine(HS _).mono ?_;rintro e w1 ⟨rfl,hb1⟩;have z1:=(BL hb1).2;have b1:=(BL hb1).1;have r1:=AS (w:=w) (l:=[.s ⟨#[]⟩,.s ⟨#[]⟩,.i 0,.i 0,.s ⟨#[]⟩,.bool false,.l none 0 0]) (t:=118) hb1;have q0:=r1.cell 0 Zb;have q1:=r1.cell 1 Zb;have q2:=r1.cell 2 Zb;have q3:=r1.cell 3 Zb;have q4:=r1.cell 4 Zb;have q5:=r1.cell 5 Zb;have q6:=r1.cell 6 Zb;have qf:=r1.free;clear hb1 r1;simp only[Bg,Af,Ag]at q0 q1 q2 q3 q4 q5 q6;have zz:D<w1.1.size:=Za;obtain⟨c0,c1,c2,c3,c4,c5,c6,c7,c8⟩:=HD.grow b1 hD;go_wp2;refine bodyPost_ret (v:=.tuple #[.agg #[.s x.kind,.s x.name,.i x.ver,.i x.born,.s x.text,.bool true,.l A x.hn C],.nilIface]) (by simp[results,results99,go_sem,q0,q1,q2,q3,q4,q5,q6,z1]) rfl ⟨rfl,by repeat(first|with_reducible exact b1|with_reducible refine AJ ?_ Zo _|with_reducible refine Ba ?_ Zo _|with_reducible refine Bb ?_)⟩
end Go.Proofs.YtllmmkchokkaaaaGreatDoor
