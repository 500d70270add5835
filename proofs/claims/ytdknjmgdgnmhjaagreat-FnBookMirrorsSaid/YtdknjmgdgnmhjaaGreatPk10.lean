import Derived.Test.YtdknjmgdgnmhjaaGreatPk09
import Derived.Test.YtdknjmgdgnmhjaaGreatPk08
import Derived.Test.YtdknjmgdgnmhjaaGreatPk04
import Derived.Shelf.Spec.SlicesGrow
import Derived.Laws.AppendOwnNone
set_option maxRecDepth 100000
set_option maxHeartbeats 4000000
namespace Go.Proofs.YtdknjmgdgnmhjaaGreat
open Go.RowKit Go.Maps Go.Proofs.Tryz
variable {i n z base e g R cap p p':Nat}{a b:ByteArray}{s:Nat→ByteArray}{B:Bk}{v:Wr}{w w' W X:World}{xs:List Value}{c:Nat→Value}{ad:OA}{L:List EO}
theorem Yr{h:Nat->Ch}(hi:i<n):∃i',Jj h (h i).ob.k (h i).ob.n n=some i':=by induction n with
 |zero=>omega
 |succ n ih=>
  by_cases h2:(h n).ob.k=(h i).ob.k/\(h n).ob.n=(h i).ob.n;.exact⟨n,NR h2⟩
  .rw[NP h2];rcases AD i n with h3|h3;.exact ih h3
   .have:i=n:=Za;subst this;exact absurd ⟨rfl,rfl⟩ h2
def agO (floor:Int)(x:Nat->Ob)(n:Nat)(h:Nat->Ch)(i:Nat):Bool:=match Jj h (x i).k (x i).n n with|none=>decide ((x i).t<=floor)|some j=>!(h j).g&&Cv (x i) (h j).ob
def agH (m:Nat)(x:Nat->Ob)(n:Nat)(h:Nat->Ch)(i:Nat):Bool:=!decide (Jj h (h i).ob.k (h i).ob.n n=some i)||((h i).g||(LP x (h i).ob.k (h i).ob.n m).isSome)
def Qg (floor:Int)(m:Nat)(x:Nat->Ob)(n:Nat)(h:Nat->Ch):Bool:=Bj (agO floor x n h) m&&Bj (agH m x n h) n
theorem TM (now floor:Int)(m n:Nat)(x:Nat->Ob)(h:Nat->Ch)(a1 a2 a3:OA)(c1 c2 n3 c3:Nat)(w:World)(lo hi:Nat)(CD:hi<=w.1.size)(hm:(m:Int)<=1099511627776)(hl:(n:Int)<=1099511627776)(hx:∀i,i<m->Cu (x i))(hf:∀i,i<n->Cu (h i).ob)(kA:Bh w lo hi a1 m x)(hc:Dv w lo hi a2 n h):Calls prog 73 #[.agg #[.i now,.i floor,.l a1 m c1,.l a2 n c2,.l a3 n3 c3]] w λe w'=>e=.returned (.bool (Qg floor m x n h))/\Below w.1.size w w':=by
 have Tj:=λo=>hc.below (AC w o) CD;go_enter func73,ntmps73;go_wp2_with fail;refine(XR n h a2 c2 _ lo hi Zd hl hf (Tj _)).mono ?_;rintro e w0 ⟨D,rfl,Th,Fe,FV⟩;simp only[Av]at Th FV⊢;have k2:w0.cell? ⟨w.1.size,2,none⟩=some (.slice a1 m c1):=(FV.cell (p:=⟨w.1.size,2,none⟩) Zf).trans (Al _ _ _ _);have Adj:=Ab Th;have HTO:=Ab Fe;clear Th Fe Tj;go_wp2;go_loopw[19](λi wr=>∃k:Nat,k<=m/\i=.i k/\Below (w.1.size+1) (w.alloc (.cells #[.i now,.i floor,.l a1 m c1,.l a2 n c2,.l a3 n3 c3] 36)) wr/\wr.ownsMap prog 89 (plainElem prog 3) (w.1.size+1) n D/\∀j,j<k->agO floor x n h j=true)(λi _=>m-(intOf i).toNat);case atStart=>exact⟨0,Ar _,rfl,FV,Adj,λj hj=>absurd hj (Ae _)⟩
 case round=>
  obtain⟨k,hk,rfl,hb,CG,Bg⟩:=hrel;have IK:Below w.1.size w wr:=(AC _ _).trans (hb.mono Za);have JP:w.1.size+1<=wr.1.size:=by have:=hb.size;simpa using this
  have hlt:=CG.lt;clear k2 Adj FV;by_cases B7:k<m
  .obtain⟨b,off,ah,ch,rfl,Gc,Ja,Dh,Il⟩:=kA k B7;have vp:=hx k B7;have hxh:((x k).hn:Int)<=140737488355328:=by have:=vp.h;omega
   have OC:(x k).k.size<=maxLen:=by unfold maxLen;have:=vp.k;omega
   have SM:(x k).n.size<=maxLen:=by unfold maxLen;have:=vp.n;omega
   obtain⟨d0,d1,d2,d3,d4,d5,d6⟩:=Dh.below IK Za;have HS:=Ab Il;have HC:=Ab hc;have HF:=Ab hf;have HA:=Ab Bg;have Qr:=WO (x k).k (x k).n OC SM;have LV:=Ab CG;clear hc hf kA hx Dh Il Bg CG;cases I4:Jj h (x k).k (x k).n n with
   |none=>
    have SP:=(HTO _ _ OC SM).2 I4;have HL:=Ab (show agO floor x n h k=decide ((x k).t<=floor)by unfold agO;rw[I4]);clear I4;go_wp2_with fail;refine(En (x k) ah ch _).mono ?_;rintro e w1 ⟨rfl,AU⟩;have CW:=Ab (BR (LV.alloc _) AU Zd);have Fp:Below (w.1.size+1) (w.alloc (.cells #[.i now,.i floor,.l (some ⟨b,off,none⟩) m c1,.l a2 n c2,.l a3 n3 c3] 36)) w1:=(hb.alloc JP (.cells (vO (x k) ah ch) 52)).trans (AU.mono Zd);have C7:wr.1.size<w1.1.size:=by have:=AU.size;simp at this;omega
    have p0:=Ay AU 0;have p1:=Ay AU 1;have p2:=Ay AU 2;have p3:=Ay AU 3;have p4:=Ay AU 4;have p5:=Ay AU 5;have p6:=Ay AU 6;simp only[Ah,Ai,Af]at p0 p1 p2 p3 p4 p5 p6;have o1:=Ay iY 1;have o3:=Ay iY 3;simp only[Ah,Ai,Af]at o1 o3;clear AU d0 d1 d2 d3 d4 d5 d6 LV;by_cases hv:(x k).t<=floor
    .have HN:=Ab (show agO floor x n h k=true by rw[HL.out];exact decide_eq_true hv);have hd:decide (floor<(x k).t)=false:=decide_eq_false Za;go_wp2_with (at_lookup;go_must(refine wpList_lookup_own_ok_int _ rfl _ _ 157 rfl 89 3 .i64 CE underlying157 underlying3 (LG _) (w.1.size+1) n D rfl CW _ _ rfl Qr ?_;intro c DR Sn;clear DR Sn));have CF:Nonempty (GW w1):=⟨⟨_,Ap _ _⟩⟩;refine AP Zc Zc ?_;repeat(go_big_quiet_step(fail))
     refine wpQuiet_nil ?_;rintro w2 ⟨u,hu⟩;have Dq:Below w1.1.size w1 w2:=hu▸u.prop;clear hu u CF;have Ds:=Fp.trans (Dq.mono Za);have BH:=Ab (BR CW Dq CW.lt);clear CW p0 p1 p2 p3 p4 p5 p6 o1 o3;exact Y_
    .have HE:=Ab (show Qg floor m x n h=false by unfold Qg;rw[Bd B7 (HL.trans (decide_eq_false hv))];rfl);have hd:decide (floor<(x k).t)=true:=decide_eq_true Za;go_wp2_with (at_lookup;go_must(refine wpList_lookup_own_ok_int _ rfl _ _ 157 rfl 89 3 .i64 CE underlying157 underlying3 (LG _) (w.1.size+1) n D rfl CW _ _ rfl Qr ?_;intro c DR Sn;clear DR Sn));go_ret;exact⟨A7 HE.symm,(AC _ _).trans (Fp.mono Za)⟩
   |some j=>
    obtain⟨SP,oM⟩:=(HTO _ _ OC SM).1 j I4;have kE:=(Jy I4).1;have HL:=Ab (show agO floor x n h k=(!(h j).g&&Cv (x k) (h j).ob)by unfold agO;rw[I4]);have Qw:=Ab oM;clear I4 oM;obtain⟨b',off',ah',ch',rfl,z_,SH,cB,hsy⟩:=HC j kE;have hjh:((h j).ob.hn:Int)<=140737488355328:=by have:=(HF j kE).h;omega
    have HSY:=Ab hsy;clear hsy;have hjz:(j:Int)<n:=Za;go_wp2_with fail;refine(En (x k) ah ch _).mono ?_;rintro e w1 ⟨rfl,AU⟩;have CW:=Ab (BR (LV.alloc _) AU Zd);have Fp:Below (w.1.size+1) (w.alloc (.cells #[.i now,.i floor,.l (some ⟨b,off,none⟩) m c1,.l (some ⟨b',off',none⟩) n c2,.l a3 n3 c3] 36)) w1:=(hb.alloc JP (.cells (vO (x k) ah ch) 52)).trans (AU.mono Zd);have C7:wr.1.size<w1.1.size:=by have:=AU.size;simp at this;omega
    have p0:=Ay AU 0;have p1:=Ay AU 1;have p2:=Ay AU 2;have p3:=Ay AU 3;have p4:=Ay AU 4;have p5:=Ay AU 5;have p6:=Ay AU 6;simp only[Ah,Ai,Af]at p0 p1 p2 p3 p4 p5 p6;have o1:=Ay iY 1;have o3:=Ay iY 3;simp only[Ah,Ai,Af]at o1 o3;clear AU d0 d1 d2 d3 d4 d5 d6 LV;go_wp2_with (at_lookup;go_must(refine wpList_lookup_own_ok_int _ rfl _ _ 157 rfl 89 3 .i64 CE underlying157 underlying3 (LG _) (w.1.size+1) n D rfl CW _ _ rfl Qr ?_;intro c DR Sn;have jw:c=(j:Int):=N6 (DR.symm.trans Qw);subst jw;clear DR Sn));have MS:Below w.1.size w w1:=(AC _ _).trans (Fp.mono Za);obtain⟨f0,f1,f2,f3,f4,f5,f6,f7,f8⟩:=cB.below MS Za;have Tn:hi<=w1.1.size:=Za;have y2:=Aq f2 Zz;have y3:=Aq f3 Zz;have y4:=Aq f4 Zz;have y5:=Aq f5 Zz;have y6:=Aq f6 Zz;have y7:=Aq f7 Zz;have y8:=Aq f8 Zz;have x0:=Aq p0 C7;have x1:=Aq p1 C7;have x2:=Aq p2 C7;have x3:=Aq p3 C7;have x4:=Aq p4 C7;have x5:=Aq p5 C7;have x6:=Aq p6 C7;have z3:=Aq o3 Zf;have im:∀u:GW w1,hi<=u.val.1.size:=λu=>AJ Tn u.prop.size;have Un:∀u:GW w1,AK u.val lo hi ah (x k).hn (x k).hs:=λu=>HS.below (MS.trans (u.prop.mono Za)) CD;have lS:∀u:GW w1,AK u.val lo hi ah' (h j).ob.hn (h j).ob.hs:=λu=>HSY.below (MS.trans (u.prop.mono Za)) CD;cases hg:(h j).g with
    |true=>have HE:=Ab (show Qg floor m x n h=false by unfold Qg;rw[Bd B7 (HL.trans (by rw[hg];rfl))];rfl);rw[hg]at f1;have y1:=Aq f1 Zz;clear hg f0 f1 f2 f3 f4 f5 f6 f7 f8 cB;exact Aey
    |false=>rw[hg]at f1;have y1:=Aq f1 Zz;have I5:=Ab (show agO floor x n h k=Cv (x k) (h j).ob by rw[HL.out,hg];rfl);clear hg f0 f1 f2 f3 f4 f5 f6 f7 f8 cB;cases jq:Cv (x k) (h j).ob with
     |false=>have HE:=Ab (show Qg floor m x n h=false by unfold Qg;rw[Bd B7 (I5.trans jq)];rfl);exact Aey
     |true=>
      have HN:=Ab (I5.trans jq);have CF:Nonempty (GW w1):=⟨⟨_,Ap _ _⟩⟩;refine AP Zc Zc ?_;repeat(go_big_quiet_step((go_at_call 98;go_must(exact B4 (Sl (x k) (h j).ob ah ah' ch ch' _ lo hi (im _) hxh hjh (Un _) (lS _))))))
      refine wpQuiet_nil ?_;rintro w2 ⟨u,hu⟩;have Dq:Below w1.1.size w1 w2:=hu▸u.prop;clear hu u CF;have Ds:=Fp.trans (Dq.mono Za);have BH:=Ab (BR CW Dq CW.lt);clear CW im Un lS z3 x0 x1 x2 x3 x4 x5 x6 y1 y2 y3 y4 y5 y6 y7 y8 p0 p1 p2 p3 p4 p5 p6 o1 o3;exact Y_
  .have:m=k:=Za;subst this;have HO:=Ab (show Bj (agO floor x n h) m=true from AS.2 Bg);have o2:=Ay Zp 2;have o3:=Ay Zp 3;simp only[Ah,Ai,Af]at o2 o3;have HD:=Ab CG;clear Bg CG;go_wp2_with fail;refine(Z6 m x a1 c1 wr lo hi Za hm hx (kA.below IK CD)).mono ?_;rintro e wp ⟨E,rfl,QO,tZ,hbp⟩;have HE0:=Ab QO;have HTE:=Ab tZ;have q3:=(hbp.cell (p:=⟨w.1.size,3,none⟩) Zf).trans o3;clear QO tZ o2 o3 hx kA;obtain⟨W,hW⟩:∃W,W=wr:=⟨wr,rfl⟩;subst hW;go_wp2;go_loopw[66](λi wq=>∃k:Nat,k<=n/\i=.i k/\Below W.1.size W wq/\wq.ownsMap prog 89 (plainElem prog 3) W.1.size m E/\∀j,j<k->agH m x n h j=true)(λi _=>n-(intOf i).toNat);case atStart=>exact⟨0,Ar _,rfl,hbp,HE0,λj hj=>absurd hj (Ae _)⟩
   case round=>
    obtain⟨k,cC,rfl,BT,QO,Bg⟩:=hrel;have hBq:Below w.1.size w wr:=IK.trans (BT.mono IK.size);have Ajs:=QO.lt;clear q3 HE0 hbp;by_cases WJ:k<n
    .obtain⟨b,off,ah,ch,rfl,Gc,Ja,Dh,Il⟩:=hc k WJ;have My:=hf k WJ;have OC:(h k).ob.k.size<=maxLen:=by unfold maxLen;have:=My.k;omega
     have SM:(h k).ob.n.size<=maxLen:=by unfold maxLen;have:=My.n;omega
     obtain⟨d0,d1,d2,d3,d4,d5,d6,d7,d8⟩:=Dh.below hBq Za;have Qr:=WO (h k).ob.k (h k).ob.n OC SM;obtain⟨i',kg⟩:=Yr (h:=h) WJ;have Tk:=Ab kg;have Cs:=(Jy kg).1;have Qw:=Ab ((HTO _ _ OC SM).1 i' kg).2;have HA:=Ab Bg;have HWE:=Ab QO;clear kg hc hf Dh Il Bg QO hb;go_wp2_with fail;refine(En (h k).ob ah ch _).mono ?_;rintro e w1 ⟨rfl,AU⟩;have kF:=Ab (BR (HWE.alloc _) AU Zd);have Fp:Below W.1.size W w1:=(BT.alloc Za _).trans (AU.mono Zd);have C7:wr.1.size<w1.1.size:=by have:=AU.size;simp at this;omega
     have p0:=Ay AU 0;have p1:=Ay AU 1;have p2:=Ay AU 2;have p3:=Ay AU 3;have p4:=Ay AU 4;have p5:=Ay AU 5;have p6:=Ay AU 6;have p7:=Ay AU 7;have p8:=Ay AU 8;simp only[Ah,Ai,Af]at p0 p1 p2 p3 p4 p5 p6 p7 p8;clear AU d0 d1 d2 d3 d4 d5 d6 d7 d8 HWE;cases Pd:LP x (h k).ob.k (h k).ob.n m with
     |none=>
      have SP:=(HTE _ _ OC SM).2 Pd;have HFN:=Ab Pd;clear Pd;go_wp2_with (at_lookup;go_must(refine wpList_lookup_own_ok_int _ rfl _ _ 157 rfl 89 3 .i64 CE underlying157 underlying3 (LG _) W.1.size m E rfl kF _ _ rfl Qr ?_;intro c DR Sn;clear DR Sn));refine(En (h k).ob ah ch _).mono ?_;rintro e w2 ⟨rfl,Uq⟩;have Ds:Below W.1.size W w2:=Fp.trans (Uq.mono Za);have tu:=Ab (BR kF Uq Za);have hD2:=Ab (BR HD Ds Za);have r1:=(Uq.cell (p:=⟨wr.1.size,1,none⟩) C7).trans p1;clear Uq p0 p1 p2 p3 p4 p5 p6 p7 p8 kF;by_cases uu:i'=k;case neg=>exact Agg
      subst uu;cases hg:(h i').g with
      |true=>have HN:=Ab (show agH m x n h i'=true by unfold agH;rw[Tk.out,hg];simp);exact Aa2
      |false=>have HE:=Ab (show Qg floor m x n h=false by unfold Qg;rw[Bd WJ (show agH m x n h i'=false by unfold agH;rw[Tk.out,hg,HFN.out];simp)];simp);rw[hg]at r1;clear hg;go_wp2_with (at_lookup;go_must(refine wpList_lookup_own_int _ rfl _ _ 157 rfl 89 3 .i64 CE underlying157 underlying3 (LG _) (w.1.size+1) n D rfl hD2 _ _ rfl Qr ?_;intro c2 DR Sn;have jw:c2=(i':Int):=N6 (DR.symm.trans Qw);subst jw;clear DR Sn));go_ret;exact⟨A7 HE.symm,IK.trans (Ds.mono IK.size)⟩
     |some g=>
      have SP:=((HTE _ _ OC SM).1 g Pd).1;have HFN:=Ab Pd;clear Pd;go_wp2_with (at_lookup;go_must(refine wpList_lookup_own_ok_int _ rfl _ _ 157 rfl 89 3 .i64 CE underlying157 underlying3 (LG _) W.1.size m E rfl kF _ _ rfl Qr ?_;intro c DR Sn;clear DR Sn));refine(En (h k).ob ah ch _).mono ?_;rintro e w2 ⟨rfl,Uq⟩;have Ds:Below W.1.size W w2:=Fp.trans (Uq.mono Za);have tu:=Ab (BR kF Uq Za);have hD2:=Ab (BR HD Ds Za);have r1:=(Uq.cell (p:=⟨wr.1.size,1,none⟩) C7).trans p1;clear Uq p0 p1 p2 p3 p4 p5 p6 p7 p8 kF;by_cases uu:i'=k;case neg=>exact Agg
      subst uu;cases hg:(h i').g with
      |true=>have HN:=Ab (show agH m x n h i'=true by unfold agH;rw[Tk.out,hg];simp);exact Aa2
      |false=>have HN:=Ab (show agH m x n h i'=true by unfold agH;rw[Tk.out,hg,HFN.out];simp);exact Aa2
    .have HE:=Ab (show Qg floor m x n h=true by unfold Qg;rw[HO.out,AS.2 (λi hi=>Bg i Za)];rfl);clear hc hf Bg QO;go_wp2;go_ret;exact⟨A7 HE.symm,hBq⟩
def ID (B:Bk):Nat->Bool
 |0=>K8 B.v B.f
 |1=>EF B.on B.os B.v
 |2=>Es B.on B.os
 |3=>Ge B.v B.f B.hn B.hs
 |4=>Bj (IU B.f B.hs) B.hn
 |5=>Qg B.f B.on B.os B.hn B.hs
 |_=>Iz B.tn B.ts B.v
theorem NW{now floor:Int}(h:K8 now floor=true):0<=floor/\floor<=now/\now<=1000000:=by unfold K8 G6 at h;simp at h;omega
theorem FA (B:Bk)(a1 a2 a3:OA)(c1 c2 c3:Nat)(w:World)(lo hi:Nat)(CD:hi<=w.1.size)(BG:BS B)(Cs:BL w lo hi B a1 a2 a3):Calls prog 45 #[.agg (vB B a1 a2 a3 c1 c2 c3)] w λe w'=>e=.returned (.bool (Bj (ID B) 7))/\Below w.1.size w w':=by
 obtain⟨f1,f2,f3,f4,f5,f6⟩:=BG;go_enter func45,ntmps45;go_wp2_with fail;go_loopw[9](λi wr=>∃k:Nat,k<=7/\i=.i k/\Below (w.1.size+1+1) ((w.alloc (.cells (vB B a1 a2 a3 c1 c2 c3) 36)).alloc (.cells #[.func (.func 68) #[] #[],.func (.func 69) #[] #[],.func (.func 70) #[] #[],.func (.func 71) #[] #[],.func (.func 72) #[] #[],.func (.func 73) #[] #[],.func (.func 74) #[] #[]] 80)) wr/\∀j,j<k->ID B j=true)(λi _=>7-(intOf i).toNat);case atStart=>exact⟨0,Ar _,rfl,Ap _ _,λj hj=>absurd hj (Ae _)⟩
 case round=>
  obtain⟨k,hk,rfl,hb,Bg⟩:=hrel;have IK:Below w.1.size w wr:=((AC _ _).alloc Ze _).trans (hb.mono Za);have JP:w.1.size+2<=wr.1.size:=by have:=hb.size;simpa using this
  have Tn:hi<=wr.1.size:=Za;have HI:=Ab (show BL wr lo hi B a1 a2 a3 from⟨Cs.o.below IK CD,Cs.h.below IK CD,Cs.t.below IK CD⟩);have HA:=Ab Bg;have e0:wr.cell? ⟨w.1.size,0,none⟩=some (.i B.v):=(hb.cell (p:=⟨w.1.size,0,none⟩) Zf).trans Ze;have e1:wr.cell? ⟨w.1.size,1,none⟩=some (.i B.f):=(hb.cell (p:=⟨w.1.size,1,none⟩) Zf).trans Ze;have e2:wr.cell? ⟨w.1.size,2,none⟩=some (.slice a1 B.on c1):=(hb.cell (p:=⟨w.1.size,2,none⟩) Zf).trans Ze;have e3:wr.cell? ⟨w.1.size,3,none⟩=some (.slice a2 B.hn c2):=(hb.cell (p:=⟨w.1.size,3,none⟩) Zf).trans Ze;have e4:wr.cell? ⟨w.1.size,4,none⟩=some (.slice a3 B.tn c3):=(hb.cell (p:=⟨w.1.size,4,none⟩) Zf).trans Ze;clear Cs;rcases(jh k Za)with rfl|rfl|rfl|rfl|rfl|rfl|rfl|rfl;all_goals clear Bg
  iterate 1
   .have g:wr.cell? ⟨w.1.size+1,0,none⟩=some (.func (.func 68) #[] #[]):=(hb.cell (p:=⟨w.1.size+1,0,none⟩) Zn).trans Ze;cases hp:ID B 0 with
    |false=>have HE:=Ab (show Bj (ID B) 7=false from Bd (show 0<7 by omega) hp);have hp':K8 B.v B.f=false:=hp;go_wp2_with (go_at_call 68;refine(Pt B.v B.f a1 a2 a3 B.on c1 B.hn c2 B.tn c3 wr).mono ?_;rintro e w2 ⟨rfl,BT⟩;rw[hp']);exact aT
    |true=>
     have HP:=Ab hp;have hp':K8 B.v B.f=true:=hp;go_wp2_with (go_at_call 68;refine(Pt B.v B.f a1 a2 a3 B.on c1 B.hn c2 B.tn c3 wr).mono ?_;rintro e w2 ⟨rfl,BT⟩;rw[hp']);go_roundw;case rel=>exact⟨1,Za,by go_num,hb.trans (BT.mono Za),λj hj=>(by
      rcases AD j 0 with h3|h3;.exact HA j h3
      .have:j=0:=Za;subst this;exact HP)⟩
     case measure=>simp[intOf]
   .have g:wr.cell? ⟨w.1.size+1,1,none⟩=some (.func (.func 69) #[] #[]):=(hb.cell (p:=⟨w.1.size+1,1,none⟩) Zn).trans Ze;cases hp:ID B 1 with
    |false=>have HE:=Ab (show Bj (ID B) 7=false from Bd (show 1<7 by omega) hp);have hp':EF B.on B.os B.v=false:=hp;go_wp2_with (go_at_call 69;refine(PC B.v B.f B.on B.os a1 a2 a3 c1 B.hn c2 B.tn c3 wr lo hi Tn f1 f4 HI.o).mono ?_;rintro e w2 ⟨rfl,BT⟩;rw[hp']);exact aT
    |true=>
     have HP:=Ab hp;have hp':EF B.on B.os B.v=true:=hp;go_wp2_with (go_at_call 69;refine(PC B.v B.f B.on B.os a1 a2 a3 c1 B.hn c2 B.tn c3 wr lo hi Tn f1 f4 HI.o).mono ?_;rintro e w2 ⟨rfl,BT⟩;rw[hp']);go_roundw;case rel=>exact⟨2,Za,by go_num,hb.trans (BT.mono Za),λj hj=>(by
      rcases AD j 1 with h3|h3;.exact HA j h3
      .have:j=1:=Za;subst this;exact HP)⟩
     case measure=>simp[intOf]
   .have g:wr.cell? ⟨w.1.size+1,2,none⟩=some (.func (.func 70) #[] #[]):=(hb.cell (p:=⟨w.1.size+1,2,none⟩) Zn).trans Ze;cases hp:ID B 2 with
    |false=>have HE:=Ab (show Bj (ID B) 7=false from Bd (show 2<7 by omega) hp);have hp':Es B.on B.os=false:=hp;go_wp2_with (go_at_call 70;refine(PG B.v B.f B.on B.os a1 a2 a3 c1 B.hn c2 B.tn c3 wr lo hi Tn f1 f4 HI.o).mono ?_;rintro e w2 ⟨rfl,BT⟩;rw[hp']);exact aT
    |true=>
     have HP:=Ab hp;have hp':Es B.on B.os=true:=hp;go_wp2_with (go_at_call 70;refine(PG B.v B.f B.on B.os a1 a2 a3 c1 B.hn c2 B.tn c3 wr lo hi Tn f1 f4 HI.o).mono ?_;rintro e w2 ⟨rfl,BT⟩;rw[hp']);go_roundw;case rel=>exact⟨3,Za,by go_num,hb.trans (BT.mono Za),λj hj=>(by
      rcases AD j 2 with h3|h3;.exact HA j h3
      .have:j=2:=Za;subst this;exact HP)⟩
     case measure=>simp[intOf]
   .have g:wr.cell? ⟨w.1.size+1,3,none⟩=some (.func (.func 71) #[] #[]):=(hb.cell (p:=⟨w.1.size+1,3,none⟩) Zn).trans Ze;have j5:=HA.out 0 Za;obtain⟨Mz,fT,hn3⟩:=NW j5;clear j5;cases hp:ID B 3 with
    |false=>have HE:=Ab (show Bj (ID B) 7=false from Bd (show 3<7 by omega) hp);have hp':Ge B.v B.f B.hn B.hs=false:=hp;go_wp2_with (go_at_call 71;refine(Od B.v B.f B.hn B.hs a1 a2 a3 B.on c1 c2 B.tn c3 wr lo hi Tn f2 Mz fT hn3 f5 HI.h).mono ?_;rintro e w2 ⟨rfl,BT⟩;rw[hp']);exact aT
    |true=>
     have HP:=Ab hp;have hp':Ge B.v B.f B.hn B.hs=true:=hp;go_wp2_with (go_at_call 71;refine(Od B.v B.f B.hn B.hs a1 a2 a3 B.on c1 c2 B.tn c3 wr lo hi Tn f2 Mz fT hn3 f5 HI.h).mono ?_;rintro e w2 ⟨rfl,BT⟩;rw[hp']);go_roundw;case rel=>exact⟨4,Za,by go_num,hb.trans (BT.mono Za),λj hj=>(by
      rcases AD j 3 with h3|h3;.exact HA j h3
      .have:j=3:=Za;subst this;exact HP)⟩
     case measure=>simp[intOf]
   .have g:wr.cell? ⟨w.1.size+1,4,none⟩=some (.func (.func 72) #[] #[]):=(hb.cell (p:=⟨w.1.size+1,4,none⟩) Zn).trans Ze;cases hp:ID B 4 with
    |false=>have HE:=Ab (show Bj (ID B) 7=false from Bd (show 4<7 by omega) hp);have hp':Bj (IU B.f B.hs) B.hn=false:=hp;go_wp2_with (go_at_call 72;refine(Oi B.v B.f B.hn B.hs a1 a2 a3 B.on c1 c2 B.tn c3 wr lo hi Tn f2 f5 HI.h).mono ?_;rintro e w2 ⟨rfl,BT⟩;rw[hp']);exact aT
    |true=>
     have HP:=Ab hp;have hp':Bj (IU B.f B.hs) B.hn=true:=hp;go_wp2_with (go_at_call 72;refine(Oi B.v B.f B.hn B.hs a1 a2 a3 B.on c1 c2 B.tn c3 wr lo hi Tn f2 f5 HI.h).mono ?_;rintro e w2 ⟨rfl,BT⟩;rw[hp']);go_roundw;case rel=>exact⟨5,Za,by go_num,hb.trans (BT.mono Za),λj hj=>(by
      rcases AD j 4 with h3|h3;.exact HA j h3
      .have:j=4:=Za;subst this;exact HP)⟩
     case measure=>simp[intOf]
   .have g:wr.cell? ⟨w.1.size+1,5,none⟩=some (.func (.func 73) #[] #[]):=(hb.cell (p:=⟨w.1.size+1,5,none⟩) Zn).trans Ze;cases hp:ID B 5 with
    |false=>have HE:=Ab (show Bj (ID B) 7=false from Bd (show 5<7 by omega) hp);have hp':Qg B.f B.on B.os B.hn B.hs=false:=hp;go_wp2_with (go_at_call 73;refine(TM B.v B.f B.on B.hn B.os B.hs a1 a2 a3 c1 c2 B.tn c3 wr lo hi Tn f1 f2 f4 f5 HI.o HI.h).mono ?_;rintro e w2 ⟨rfl,BT⟩;rw[hp']);exact aT
    |true=>
     have HP:=Ab hp;have hp':Qg B.f B.on B.os B.hn B.hs=true:=hp;go_wp2_with (go_at_call 73;refine(TM B.v B.f B.on B.hn B.os B.hs a1 a2 a3 c1 c2 B.tn c3 wr lo hi Tn f1 f2 f4 f5 HI.o HI.h).mono ?_;rintro e w2 ⟨rfl,BT⟩;rw[hp']);go_roundw;case rel=>exact⟨6,Za,by go_num,hb.trans (BT.mono Za),λj hj=>(by
      rcases AD j 5 with h3|h3;.exact HA j h3
      .have:j=5:=Za;subst this;exact HP)⟩
     case measure=>simp[intOf]
   .have g:wr.cell? ⟨w.1.size+1,6,none⟩=some (.func (.func 74) #[] #[]):=(hb.cell (p:=⟨w.1.size+1,6,none⟩) Zn).trans Ze;cases hp:ID B 6 with
    |false=>have HE:=Ab (show Bj (ID B) 7=false from Bd (show 6<7 by omega) hp);have hp':Iz B.tn B.ts B.v=false:=hp;go_wp2_with (go_at_call 74;refine(Pj B.v B.f B.tn B.ts a1 a2 a3 B.on c1 B.hn c2 c3 wr lo hi Tn f3 f6 HI.t).mono ?_;rintro e w2 ⟨rfl,BT⟩;rw[hp']);exact aT
    |true=>
     have HP:=Ab hp;have hp':Iz B.tn B.ts B.v=true:=hp;go_wp2_with (go_at_call 74;refine(Pj B.v B.f B.tn B.ts a1 a2 a3 B.on c1 B.hn c2 c3 wr lo hi Tn f3 f6 HI.t).mono ?_;rintro e w2 ⟨rfl,BT⟩;rw[hp']);go_roundw;case rel=>exact⟨7,Za,by go_num,hb.trans (BT.mono Za),λj hj=>(by
      rcases AD j 6 with h3|h3;.exact HA j h3
      .have:j=6:=Za;subst this;exact HP)⟩
     case measure=>simp[intOf]
   .have HE:=Ab (show Bj (ID B) 7=true from AS.2 HA);exact eM
/-! what a write comes to -/
theorem Xw:∀a b:List UInt8,Op.bytesLess a b=false->¬a=b->Op.bytesLess b a=true
 |[],[],_,h=>absurd rfl h
 |[],_::_,h,_=>by simp[Op.bytesLess]at h
 |_::_,[],_,_=>rfl
 |x::a,y::b,h,hn=>by
  simp only[Op.bytesLess]at h⊢;by_cases e:x=y;.subst e;simp at h⊢;exact Xw a b h (λe=>hn (by rw[e]))
  .simp[e]at h;have e2:¬y=x:=λq=>e q.symm;simp[e2];have h1:¬x.toNat<y.toNat:=by intro hh;exact absurd (UInt8.lt_iff_toNat_lt.2 hh) (by simpa using h)
   have h2:¬x.toNat=y.toNat:=λq=>e (UInt8.toNat_inj.1 q);exact UInt8.lt_iff_toNat_lt.2 Za
theorem QG (h:Gt a b=false)(hn:¬a=b):Gt b a=true:=Xw _ _ h (λe=>hn (G3 e))
theorem Rv{x y z:Ob}(h1:DY x y=true)(h2:DY y z=true):DY x z=true:=by
 unfold DY at h1 h2⊢;by_cases e1:x.k.toList=y.k.toList
 .by_cases e2:y.k.toList=z.k.toList
  .rw[if_pos e1]at h1;rw[if_pos e2]at h2;rw[if_pos (e1.trans e2)];exact K5 h1 h2
  .rw[if_neg e2]at h2;rw[if_neg (λe=>e2 (e1.symm.trans e))];unfold Gt at h2⊢;rw[e1];exact h2
 .rw[if_neg e1]at h1;by_cases e2:y.k.toList=z.k.toList;.rw[if_neg (λe=>e1 (e.trans e2.symm))];unfold Gt at h1⊢;rw[<-e2];exact h1
  .rw[if_neg e2]at h2;have h3:=K5 h1 h2;by_cases e3:x.k.toList=z.k.toList;.rw[IG e3]at h3;cases h3
   .rw[if_neg e3];exact h3
def WS (n:Nat)(x:Nat->Ob):Prop:=∀i j,i<j->j<n->DY (x i) (x j)=true
def Kl (n:Nat)(s:Nat->ByteArray):Prop:=∀i j,i<j->j<n->Gt (s i) (s j)=true
theorem wD{x:Nat->Ob}(h:GT n x=true):WS n x:=by unfold GT at h;rw[AS]at h;intro i j;induction j with
 |zero=>intro h1;omega
 |succ j ih=>
  intro h1 h2;have hj:=h (j+1) h2;simp at hj;rcases AD i j with h3|h3;.exact Rv (ih h3 Za) hj
  .obtain rfl:i=j:=Za;exact hj
theorem fu (h:S3 n s=true):Kl n s:=by rw[Lq,As]at h;have h:=h.1;unfold iZ at h;rw[AS]at h;intro i j;induction j with
 |zero=>intro h1;omega
 |succ j ih=>
  intro h1 h2;have hj:=h (j+1) h2;simp at hj;rcases AD i j with h3|h3;.exact K5 (ih h3 Za) hj
  .obtain rfl:i=j:=Za;exact hj
def Gu (s:Nat->ByteArray)(a:ByteArray):Nat->Nat
 |0=>0
 |n+1=>if Gu s a n=n/\Gt (s n) a=true then n+1 else Gu s a n
theorem Kz (s:Nat->ByteArray)(a:ByteArray):∀n,Gu s a n<=n/\(∀j,j<Gu s a n->Gt (s j) a=true)/\(Gu s a n<n->Gt (s (Gu s a n)) a=false)
 |0=>⟨AG _,λj hj=>absurd hj (Ae _),λh=>absurd h (Ae _)⟩
 |n+1=>by
  obtain⟨h1,h2,h3⟩:=Kz s a n;unfold Gu;by_cases e:Gu s a n=n/\Gt (s n) a=true
  .rw[if_pos e];refine⟨AG _,λj hj=>?_,λh=>absurd h (Bc _)⟩;rcases AD j n with h|h;.exact h2 j Za
   .obtain rfl:j=n:=Za;exact e.2
  .rw[if_neg e];refine⟨Za,h2,λ_=>?_⟩;rcases AD (Gu s a n) n with h|h;.exact h3 h
   .have e1:Gu s a n=n:=Za;rw[e1];cases hx:Gt (s n) a with
    |false=>rfl
    |true=>exact absurd ⟨e1,hx⟩ e
theorem aZ (hi:i<=n)(h1:∀j,j<i->Gt (s j) a=true)(h2:i<n->Gt (s i) a=false):Gu s a n=i:=by
 obtain⟨g1,g2,g3⟩:=Kz s a n;rcases KE (Gu s a n) i with h|h|h;.have e1:=h1 _ h;rw[g3 Za]at e1;cases e1
 .exact h
 .have e1:=g2 _ h;rw[h2 Za]at e1;cases e1
def Qb (s:Nat->ByteArray)(k:Nat)(a:ByteArray):Nat->ByteArray:=λj=>if j<k then s j else if j=k then a else s (j-1)
def Lp (s:Nat->ByteArray)(k:Nat):Nat->ByteArray:=λj=>if j<k then s j else s (j+1)
theorem Aa9 (h:Kl n s):K1 n s a=(decide (Gu s a n<n)&&decide (s (Gu s a n)=a)):=by
 obtain⟨g1,g2,g3⟩:=Kz s a n;by_cases e:Gu s a n<n/\s (Gu s a n)=a
 .rw[RE e.1 e.2];simp[e.1,e.2]
 .rw[fK (λi hi q=>e ?_)]
  .symm;rw[Bool.and_eq_false_iff];by_cases e1:Gu s a n<n;.exact Az (by simpa using λq=>e ⟨e1,q⟩)
   .exact AA (by simpa using e1)
  .have hr:Gu s a n=i:=by
    refine aZ (Nat.le_of_lt hi) (λj hj=>?_) (λ_=>?_);.rw[<-q];exact h j i hj hi
    .rw[q];exact IG rfl
   rw[hr];exact⟨hi,q⟩
def Cx (B:Bk)(v:Wr):Ob:=Ck B.os v.k v.n B.on
def DE (B:Bk)(v:Wr):Int:=if CC B.os v.k v.n B.on=decide (v.op=1)then 3 else if¬v.s=0/\¬v.s=(Cx B v).t then 4 else if(Cx B v).e=true/\¬v.op=5 then 5 else if v.op=1 then(if 100<=B.on then 7 else 0)else if v.op=4 then(if K1 (Cx B v).hn (Cx B v).hs v.hold=true then 6 else if 5<=(Cx B v).hn then 7 else 0)else if v.op=5 then(if K1 (Cx B v).hn (Cx B v).hs v.hold=true then 0 else 6)else 0
def B8 (B:Bk)(v:Wr):Int:=if DE B v=0 then(if 1000000<=B.v then 8 else 0)else DE B v
def xO (B:Bk)(v:Wr):Int:=if DE B v=4 then(Cx B v).t else 0
def KX (B:Bk)(v:Wr)(ve:Int):Ob:=if v.op=1 then⟨v.k,v.n,ve,B.v+1,v.m,false,if Vp v.hold then 0 else 1,λ_=>v.hold⟩else if v.op=2 then⟨(Cx B v).k,(Cx B v).n,ve,(Cx B v).b,v.m,(Cx B v).e,(Cx B v).hn,(Cx B v).hs⟩else if v.op=3 then⟨(Cx B v).k,(Cx B v).n,ve,(Cx B v).b,(Cx B v).m,true,(Cx B v).hn,(Cx B v).hs⟩else if v.op=4 then⟨(Cx B v).k,(Cx B v).n,ve,(Cx B v).b,(Cx B v).m,(Cx B v).e,(Cx B v).hn+1,Qb (Cx B v).hs (Gu (Cx B v).hs v.hold (Cx B v).hn) v.hold⟩else⟨(Cx B v).k,(Cx B v).n,ve,(Cx B v).b,(Cx B v).m,(Cx B v).e,(Cx B v).hn-1,Lp (Cx B v).hs (Gu (Cx B v).hs v.hold (Cx B v).hn)⟩
def CL (B:Bk)(v:Wr):Ob:=KX B v (B.v+1)
def Dl (B:Bk)(v:Wr):Bool:=!Dp (CL B v)
def Ls (B:Bk)(v:Wr):Ch:=⟨B.v+1,Dl B v,CL B v⟩
def JH (B:Bk):Nat:=if B.hn=200 then 1 else 0
def wHs (B:Bk)(c:Ch):Nat->Ch:=λi=>if i<B.hn-JH B then B.hs (i+JH B)else c
def Jd (B:Bk)(v:Wr):Bk:={v:=B.v+1,f:=if B.hn=200 then(B.hs 0).t else B.f,on:=(DH B.on B.os (CL B v) (Dl B v)).m,os:=(DH B.on B.os (CL B v) (Dl B v)).y,hn:=B.hn-JH B+1,hs:=wHs B (Ls B v),tn:=B.tn,ts:=B.ts}
structure LW (B:Bk)(v:Wr):Prop where
 fit:BS B
 now0:0<=B.v
 now1:B.v<=1000000
 on:B.on<=100
 hn:B.hn<=200
 asc:WS B.on B.os
 hold:∀i,i<B.on->(B.os i).hn<=5/\Kl (B.os i).hn (B.os i).hs
 wr:N7 v=true
 wf:Q7 v
theorem ZF (hf:BS B)(hv:Bj (ID B) 7=true)(hw:N7 v=true)(wf:Q7 v):LW B v:=by rw[AS]at hv;have c0:K8 B.v B.f=true:=hv 0 Za;have c1:EF B.on B.os B.v=true:=hv 1 Za;have c3:Ge B.v B.f B.hn B.hs=true:=hv 3 Za;unfold K8 at c0;unfold EF at c1;unfold Ge at c3;rw[As]at c0 c1 c3;rw[As]at c1;have n0:=Lo c0.1;refine⟨hf,n0.1,n0.2,of_decide_eq_true c1.1,of_decide_eq_true c3.1,wD c1.2.1,λi hi=>?_,hw,wf⟩;have h:=AS.1 c1.2.2 i hi;rw[As]at h;have h:=h.1;unfold Bv at h;simp only[As]at h;have h:=h.2.2.2.2.2;unfold D7 at h;rw[As]at h;exact⟨of_decide_eq_true h.1,fu h.2⟩
theorem Ru{v:Value}(h:w.ownsRow base e z v n xs)(hb:Below w.1.size w w'):w'.ownsRow base e z v n xs:=GU h (Aj (P:=λ_=>False) hb) (λ_ _ h=>h)
theorem jT{v0 v1 v2 v3 v4 v5 v6:Value}(h:AE w g 7 c):AE (((((((w.setCell ⟨g,0,none⟩ v0).setCell ⟨g,1,none⟩ v1).setCell ⟨g,2,none⟩ v2).setCell ⟨g,3,none⟩ v3).setCell ⟨g,4,none⟩ v4).setCell ⟨g,5,none⟩ v5).setCell ⟨g,6,none⟩ v6) g 7 (AV [v0,v1,v2,v3,v4,v5,v6]):=by have H:=((((((h.set (o:=0) Za v0).set (o:=1) Za v1).set (o:=2) Za v2).set (o:=3) Za v3).set (o:=4) Za v4).set (o:=5) Za v5).set (o:=6) Za v6;refine⟨H.lt,H.free,λj hj=>(H.cell j hj).trans ?_⟩;rcases(YP j Za)with rfl|rfl|rfl|rfl|rfl|rfl|rfl<;>rfl
def iJ:List ByteArray:=[⟨#[98,101,114,116,104]⟩,⟨#[106,111,98]⟩,⟨#[97,46,98]⟩]
def i8:List ByteArray:=[⟨#[120]⟩,⟨#[120,49]⟩,⟨#[121]⟩,⟨#[122,45,48]⟩]
theorem SL.mono2{base':Nat}{v:Value}{xs:List ByteArray}(h:SL w base v xs)(hb:base'<=base):SL w base' v xs:=by obtain⟨g,cap,e1,e2,e3,e4,e5,e6⟩:=h;exact⟨g,cap,e1,AJ hb e2,e3,e4,e5,e6⟩
theorem SL.fr{v:Value}{xs:List ByteArray}(h:SL w base v xs)(hf:AB (λq=>q=R) w w')(hR:R<base):SL w' base v xs:=by obtain⟨g,cap,e1,e2,e3,e4,e5,e6⟩:=h;have hg:∀j,w'.cell? ⟨g,j,none⟩=w.cell? ⟨g,j,none⟩:=λj=>hf.cell (p:=⟨g,j,none⟩) e3 (λq=>by have q:g=R:=q;omega);have hz:∀j,w'.frozen? ⟨g,j,none⟩=w.frozen? ⟨g,j,none⟩:=λj=>hf.frozen (p:=⟨g,j,none⟩) e3 (λq=>by have q:g=R:=q;omega);exact⟨g,cap,e1,e2,Aa e3 hf.size,e4,λj hj=>by rw[hg,hz];exact e5 j hj,λj hj=>by rw[hg];exact e6 j hj⟩
theorem AE.fr2{m:Nat}(h:AE w g m c)(hf:AB (λq=>q=R) w w')(hR:¬g=R):AE w' g m c:=⟨Aa h.lt hf.size,λj=>by rw[hf.frozen (p:=⟨g,j,none⟩) h.lt hR];exact h.free j,λj hj=>by rw[hf.cell (p:=⟨g,j,none⟩) h.lt hR];exact h.cell j hj⟩
theorem AB.far (h:AB (λq=>q=R) W X)(hz:W.1.size<=z)(o:Nat)(v:Value):AB (λq=>q=R) W (X.setCell ⟨z,o,none⟩ v):=JN h (AA hz) v
theorem AB.far6 (h:AB (λq=>q=R) W X)(hz:W.1.size<=z)(a b c d e f:Value):AB (λq=>q=R) W ((((((X.setCell ⟨z,0,none⟩ a).setCell ⟨z,1,none⟩ b).setCell ⟨z,2,none⟩ c).setCell ⟨z,3,none⟩ d).setCell ⟨z,4,none⟩ e).setCell ⟨z,5,none⟩ f):=(((((h.far hz _ _).far hz _ _).far hz _ _).far hz _ _).far hz _ _).far hz _ _
theorem Rd.far (hW:Rd W R ad n cap p)(hX:Rd X R ad n cap p')(hz:W.1.size<=z)(o:Nat)(v:Value):Rd (X.setCell ⟨z,o,none⟩ v) R ad n cap p':=by
 have hR:=hW.lt;have ne:∀j,(⟨z,o,none⟩:Addr)≠⟨R,j,none⟩:=λj q=>by have:=congrArg Addr.block q;have this:z=R:=this;omega
 refine⟨?_,?_,?_,by rw[Be];exact hX.lt,hX.n2,λi hi=>?_,λj s q=>hX.ns j s (by rw[AI _ _ _ _ (ne j)]at q;exact q)⟩;.rw[AI _ _ _ _ (ne 0)];exact hX.c0
 .rw[AI _ _ _ _ (ne 1)];exact hX.c1
 .rw[Fs];exact hX.f1
 .obtain⟨b,off,u,e1,e2,_⟩:=hW.bt i hi;obtain⟨b',off',u',f1,f2,f3,f4,f5,f6⟩:=hX.bt i hi;rw[e1]at f1;obtain⟨rfl,rfl⟩:b=b'/\off=off':=by simpa using f1
  exact⟨b,off,u',e1,by rw[Be];exact f2,f3,by rw[AI _ _ _ _ (λq=>by have:=congrArg Addr.block q;have this:z=b:=this;omega)];exact f4,f5,f6⟩
theorem Rd.far6 (hW:Rd W R ad n cap p)(hX:Rd X R ad n cap p')(hz:W.1.size<=z)(a b c d e f:Value):Rd ((((((X.setCell ⟨z,0,none⟩ a).setCell ⟨z,1,none⟩ b).setCell ⟨z,2,none⟩ c).setCell ⟨z,3,none⟩ d).setCell ⟨z,4,none⟩ e).setCell ⟨z,5,none⟩ f) R ad n cap p':=hW.far (hW.far (hW.far (hW.far (hW.far (hW.far hX hz _ _) hz _ _) hz _ _) hz _ _) hz _ _) hz _ _
def pk (R:Nat)(W:World)(i:Nat)(v:Value)(X:World):Prop:=match i with
 |0=>v=.p R 0
 |1=>∃k:Nat,k<5/\v=.i k
 |2=>∃k:Nat,k<5/\v=.i (1+(k:Int))
 |3=>SL X W.1.size v iJ
 |4=>v=.p R 0
 |5=>∃k:Nat,k<3/\v=.i k
 |6=>∃(g k:Nat)(s:ByteArray),v=.pointer (some ⟨g,k,none⟩)/\W.1.size<=g/\g<X.1.size/\s∈iJ/\X.cell? ⟨g,k,none⟩=some (.s s)
 |7=>∃s:ByteArray,s∈iJ/\v=.s s
 |8=>SL X W.1.size v i8
 |9=>v=.p R 0
 |10=>∃k:Nat,k<4/\v=.i k
 |11=>∃(g k:Nat)(s:ByteArray),v=.pointer (some ⟨g,k,none⟩)/\W.1.size<=g/\g<X.1.size/\s∈i8/\X.cell? ⟨g,k,none⟩=some (.s s)
 |12=>∃s:ByteArray,s∈i8/\v=.s s
 |13=>∃(k:Nat)(s1 s2:ByteArray),k<5/\s1∈iJ/\s2∈i8/\v=.agg #[.i (1+(k:Int)),.s s1,.s s2,.i 0,.s ⟨#[]⟩,.s ⟨#[]⟩]
 |14=>∃z:Nat,v=.p z 0/\W.1.size<=z/\AE X z 6 (AV [.i 0,.s ⟨#[]⟩,.s ⟨#[]⟩,.i 0,.s ⟨#[]⟩,.s ⟨#[]⟩])
 |_=>True
theorem Aay{p1 p2 p3 p4 p6 DT D9 Ef EJ Ej El Ei Ed Eh Ek Ey Ev Ew Ex EM EH EI EV Er EB ER ES EQ EC ED Eo EW EU EK EL F9 FY F8 Ga FM Fz Fy FN Fv Gy Gx GO GI GQ Gw Gv Fu G9 Ha Hf Hd Hb Hc GL GK Hg In Ik Im Hj He G8 Hi Hh Ie J8 Jr Jp Lj Lh Lf J9 Kc KL KJ KM KN KI LJ FE Gb Fi EX E0 EZ EY Fg Fh Ho Hn Hm Hq GN GP GF GG Hr Hp IP IN IJ KO KQ KR JZ JV JY:Value}{mk:(Nat->Value)->Array Value}(t0:Nat->Value)(R:Nat)(ad:OA)(nn cap p:Nat)(W:World)(hr:Rd W R ad nn cap p)(hp:p<=900000)(Dg:mk=λt=>#[.p R 0,p1,p2,p3,p4,t 14,p6,t 0,t 1,t 2,t 3,t 4,t 5,t 6,t 7,t 8,t 9,t 10,t 11,t 12,t 13,DT,D9,Ef,EJ,Ej,El,Ei,Ed,Eh,Ek,Ey,Ev,Ew,Ex,EM,EH,EI,EV,Er,EB,ER,ES,EQ,EC,ED,Eo,EW,EU,EK,EL,F9,FY,F8,Ga,FM,Fz,Fy,FN,Fv,Gy,Gx,GO,GI,GQ,Gw,Gv,Fu,G9,Ha,Hf,Hd,Hb,Hc,GL,GK,Hg,In,Ik,Im,Hj,He,G8,Hi,Hh,Ie,J8,Jr,Jp,Lj,Lh,Lf,J9,Kc,KL,KJ,KM,KN,KI,LJ,FE,Gb,Fi,EX,E0,EZ,EY,Fg,Fh,Ho,Hn,Hm,Hq,GN,GP,GF,GG,Hr,Hp,IP,IN,IJ,KO,KQ,KR,JZ,JV,JY])(Q:Exit->Act->World->Prop)(hQ:∀(t:Nat->Value)(z k:Nat)(s1 s2:ByteArray)(pz:Nat) X,t 14=.p z 0->W.1.size<=z->k<5->s1∈iJ->s2∈i8->AE X z 6 (AV [.i (1+(k:Int)),.s s1,.s s2,.i 0,.s ⟨#[]⟩,.s ⟨#[]⟩])->AB (λq=>q=R) W X->p<=pz->pz<=p+15->Rd X R ad nn cap pz->Q .normal ⟨mk t,[]⟩ X):Code.wp prog (rg Tryz.f31 1) Q ⟨mk t0,[]⟩ W:=by
 have Le:=hr.lt;refine QC Zc 15 mk t0 R ad nn cap p (pk R W) (λa X=>∃(t:Nat->Value)(z k:Nat)(s1 s2:ByteArray)(pz:Nat),a=⟨mk t,[]⟩/\t 14=.p z 0/\W.1.size<=z/\k<5/\s1∈iJ/\s2∈i8/\AE X z 6 (AV [.i (1+(k:Int)),.s s1,.s s2,.i 0,.s ⟨#[]⟩,.s ⟨#[]⟩])/\AB (λq=>q=R) W X/\p<=pz/\pz<=p+15/\Rd X R ad nn cap pz) Zc Zc Zc ?_ rfl hr ?_ ?_ ?_;all_goals subst Dg
 .intro i v X Y hi h hF hR hX;iterate 15 (rcases i with _|i;.first|exact h|exact h.fr hF Za|(obtain⟨g,k,s,e,a1,a2,a3,a4⟩:=h;exact⟨g,k,s,e,a1,Aa a2 hF.size,a3,(hF.cell (p:=⟨g,k,none⟩) a2 (λq=>by have q:g=R:=q;omega)).trans a4⟩)|(obtain⟨z,e,a1,a2⟩:=h;exact⟨z,e,a1,a2.fr2 hF Za⟩))
  omega
 .intro i hi t X K p' hb CO Dj AW hg hK;rcases(dk i Za)with rfl|rfl|rfl|rfl|rfl|rfl|rfl|rfl|rfl|rfl|rfl|rfl|rfl|rfl|rfl;.exact Di
  .have AY:t 0=_:=hg 0 (AR rfl);refine Au rfl rfl ?_;have HK:=Ab hK;have HR:=Ab AW;clear hK hg AW;go_simp;go_at_call 16;refine(Bt R ad nn cap p' 5 X HR Za Za Za).mono ?_;exact bg
  .obtain⟨k,hk,e1⟩:=hg 1 (AR rfl);have hw:=AQ (1+(k:Int)) ⟨Za,Za⟩;have h:=hK (.i (1+(k:Int))) X p' A9 Za ⟨k,hk,rfl⟩ (AB.refl _ _) AW;refine Au rfl rfl ?_;clear hK hg;go_simp;simpa[AX,e1,hw]using h
  .have h:=hK (.l (some ⟨X.1.size,0,none⟩) 3 3) (X.alloc (.cells (Hw iJ).toArray 9)) p' A9 Za ((SL.new X iJ).mono2 hb.size) (Aj Do) (AW.below Do);refine Au rfl rfl ?_;clear hK hg;go_simp;simpa[AX,Hw,iJ]using h
  .exact Di
  .have AY:t 4=_:=hg 4 (AR rfl);refine Au rfl rfl ?_;have HK:=Ab hK;have HR:=Ab AW;clear hK hg AW;go_simp;go_at_call 16;refine(Bt R ad nn cap p' 3 X HR Za Za Za).mono ?_;exact bg
  .obtain⟨g,cp,e3,g1,g2,g3,g4,g5⟩:=hg 3 (AR rfl);obtain⟨k,hk,e5⟩:=hg 5 (AR rfl);have hL:iJ.length=3:=rfl;rw[hL]at e3;have h:=hK (.pointer (some ⟨g,k,none⟩)) X p' A9 Za ⟨g,k,iJ[k]'Zbd,rfl,g1,g2,Fd _,g5 k Zbd⟩ (AB.refl _ _) AW;refine Au rfl rfl ?_;clear hK hg;go_simp;rw[if_pos Za,BK];go_simp;simpa[AX,e3,e5]using h
  .obtain⟨g,k,s,e6,g1,g2,g3,g4⟩:=hg 6 (AR rfl);have h:=hK (.s s) X p' A9 Za ⟨s,g3,rfl⟩ (AB.refl _ _) AW;refine Au rfl rfl ?_;clear hK hg;go_simp;simpa[AX,e6]using h
  .have h:=hK (.l (some ⟨X.1.size,0,none⟩) 4 4) (X.alloc (.cells (Hw i8).toArray 9)) p' A9 Za ((SL.new X i8).mono2 hb.size) (Aj Do) (AW.below Do);refine Au rfl rfl ?_;clear hK hg;go_simp;simpa[AX,Hw,i8]using h
  .exact Di
  .have AY:t 9=_:=hg 9 (AR rfl);refine Au rfl rfl ?_;have HK:=Ab hK;have HR:=Ab AW;clear hK hg AW;go_simp;go_at_call 16;refine(Bt R ad nn cap p' 4 X HR Za Za Za).mono ?_;exact bg
  .obtain⟨g,cp,e8,g1,g2,g3,g4,g5⟩:=hg 8 (AR rfl);obtain⟨k,hk,e10⟩:=hg 10 (AR rfl);have hL:i8.length=4:=rfl;rw[hL]at e8;have h:=hK (.pointer (some ⟨g,k,none⟩)) X p' A9 Za ⟨g,k,i8[k]'Zbd,rfl,g1,g2,Fd _,g5 k Zbd⟩ (AB.refl _ _) AW;refine Au rfl rfl ?_;clear hK hg;go_simp;rw[if_pos Za,BK];go_simp;simpa[AX,e8,e10]using h
  .obtain⟨g,k,s,e11,g1,g2,g3,g4⟩:=hg 11 (AR rfl);have h:=hK (.s s) X p' A9 Za ⟨s,g3,rfl⟩ (AB.refl _ _) AW;refine Au rfl rfl ?_;clear hK hg;go_simp;simpa[AX,e11]using h
  .obtain⟨k,hk,e2⟩:=hg 2 (AR rfl);obtain⟨s1,h1,e7⟩:=hg 7 (AR rfl);obtain⟨s2,h2,e12⟩:=hg 12 (AR rfl);have h:=hK (.agg #[.i (1+(k:Int)),.s s1,.s s2,.i 0,.s ⟨#[]⟩,.s ⟨#[]⟩]) X p' A9 Za ⟨k,s1,s2,hk,h1,h2,rfl⟩ (AB.refl _ _) AW;refine Au rfl rfl ?_;clear hK hg;go_simp;simpa[AX,e2,e7,e12]using h
  .have h:=hK (.p (X.1.size) 0) (X.alloc (.cells #[.i 0,.s ⟨#[]⟩,.s ⟨#[]⟩,.i 0,.s ⟨#[]⟩,.s ⟨#[]⟩] 76)) p' A9 Za ⟨X.1.size,rfl,hb.size,AE.new (l:=[.i 0,.s ⟨#[]⟩,.s ⟨#[]⟩,.i 0,.s ⟨#[]⟩,.s ⟨#[]⟩]) (t:=76) Dx⟩ (Aj Do) (AW.below Do);exact JC
 .intro t X K p' hb CO Dj AW hg hK;obtain⟨k,s1,s2,hk,h1,h2,lp⟩:=hg 13 Za;obtain⟨z,kD,hz,By⟩:=hg 14 Za;have rf:=By.free;have rl:=By.lt;obtain⟨r0,r1,r2,r3,r4,r5⟩:=CT6 By;have R6:=(((((By.set (o:=0) Za (.i (1+(k:Int)))).set (o:=1) Za (.s s1)).set (o:=2) Za (.s s2)).set (o:=3) Za (.i 0)).set (o:=4) Za (.s ⟨#[]⟩)).set (o:=5) Za (.s ⟨#[]⟩);have F6:=hb.far6 (z:=z) hz (.i (1+(k:Int))) (.s s1) (.s s2) (.i 0) (.s ⟨#[]⟩) (.s ⟨#[]⟩);have D6:=hr.far6 AW (z:=z) hz (.i (1+(k:Int))) (.s s1) (.s s2) (.i 0) (.s ⟨#[]⟩) (.s ⟨#[]⟩);have h:=hK _ _ ⟨t,z,k,s1,s2,p',rfl,kD,hz,hk,h1,h2,⟨R6.lt,R6.free,λj hj=>by rw[R6.cell j hj];rcases(ae j Za)with rfl|rfl|rfl|rfl|rfl|rfl<;>rfl⟩,F6,CO,Dj,D6⟩;have HK:=Ab h;clear hK hg By h R6 F6 D6;refine Au rfl rfl ?_;go_simp;simpa[lp,kD]using HK.out
 .rintro a X ⟨t,z,k,s1,s2,pz,rfl,a1,a2,a3,a4,a5,a6,a7,a8,a9,a10⟩;exact hQ t z k s1 s2 pz X a1 a2 a3 a4 a5 a6 a7 a8 a9 a10
theorem yE{U:World}{c:Array Value}{t:TypeId}{k j:Nat}(h:k=U.1.size):(U.alloc (.cells c t)).cell? ⟨k,j,none⟩=c[j]?:=by subst h;exact Al _ _ _ _
theorem Mt{v:Value}(h:w.ownsRow base e z v n xs):∃ad cap,v=.l ad n cap:=by
 rcases h.2 with⟨h1,h2⟩|⟨g,cap,cur,e1,e2,e3,e4⟩;.subst h2;exact⟨none,0,h1⟩
 .exact⟨_,_,e1⟩
def MF (e:EO):List Value:=[.s e.ob.k,.s e.ob.n,.i e.ob.t,.i e.ob.b,.s e.ob.m,.bool e.ob.e,.l e.A e.ob.hn e.C]
def DJ:List EO->List Value|[]=>[]|e::r=>MF e++DJ r
theorem Og (e:EO):(MF e).length=7:=rfl
theorem Ir:∀L,(DJ L).length=L.length*7
 |[]=>rfl
 |e::r=>by simp only[DJ,Ni,Og,Ir r,CT];omega
theorem OV:∀(L:List EO)(i r:Nat),i<L.length->r<7->(DJ L)[i*7+r]?=(MF (Ii L i))[r]?
 |[],i,_,h,_=>absurd h (Ae _)
 |e::l,0,r,_,hr=>by rw[DJ,I7 (by rw[Og];omega),KF,A6];rfl
 |e::l,i+1,r,h,hr=>by rw[DJ,Nk (by rw[Og];omega),Og,show(i+1)*7+r-7=i*7+r by omega,OV l i r (by simpa using h) hr];simp[Ii]
theorem FX.cells (h:FX w g L){t:Nat}{u:Value}(hu:(DJ L)[t]?=some u):w.cell? ⟨g,t,none⟩=some u:=by
 have ht:t<L.length*7:=by have:=(List.getElem?_eq_some_iff.1 hu).1;rw[Ir]at this;exact this
 obtain⟨q,r,hr,rfl⟩:∃q r,r<7/\t=q*7+r:=⟨t/7,t%7,Za,Za⟩;have hi:q<L.length:=Za;obtain⟨c0,c1,c2,c3,c4,c5,c6⟩:=h.ob q hi;have DR:=OV L q r hi hr;rw[hu]at DR;rcases(YP r Za)with rfl|rfl|rfl|rfl|rfl|rfl|rfl<;>simp only[MF,Ai,Af]at DR<;>rw[DR];.exact c0
 .exact c1
 .exact c2
 .exact c3
 .exact c4
 .exact c5
 .exact c6
def M7 (w:World)(ad:OA)(g cap:Nat)(L:List EO):Prop:=(ad=none/\L=[]/\cap=0)\/(ad=some ⟨g,0,none⟩/\FX w g L/\L.length<=cap)
theorem M7.grow (h:M7 w ad g cap L)(hf:Below w.1.size w w'):M7 w' ad g cap L:=by
 rcases h with h|⟨h1,h2,h3⟩;.exact AA h
 .exact Az ⟨h1,h2.grow hf,h3⟩
theorem eY (h:i<L.length):(L.map EO.ob)[i]?=some (Ii L i).ob:=by rw[LZ h];simp[h]
theorem dK (h:CC B.os v.k v.n B.on=false)(h1:¬v.op=1):DE B v=3/\xO B v=0:=by
 have:DE B v=3:=by unfold DE;rw[if_pos Zce]
 exact dN
theorem wL (h:CC B.os v.k v.n B.on=true)(h1:v.op=1):DE B v=3/\xO B v=0:=by
 have:DE B v=3:=by unfold DE;rw[if_pos Zce]
 exact dN
theorem zC (h:CC B.os v.k v.n B.on=true)(h1:¬v.op=1)(h2:¬v.s=0/\¬v.s=(Cx B v).t):DE B v=4/\xO B v=(Cx B v).t:=by
 have:DE B v=4:=by unfold DE;rw[if_neg Zce,if_pos h2]
 exact dN
theorem Acc (h:CC B.os v.k v.n B.on=true)(h1:¬v.op=1)(h2:¬(¬v.s=0/\¬v.s=(Cx B v).t))(h3:(Cx B v).e=true)(h5:¬v.op=5):DE B v=5/\xO B v=0:=by
 have:DE B v=5:=by unfold DE;rw[if_neg Zce,if_neg h2,if_pos ⟨h3,h5⟩]
 exact dN
theorem Afg (h:CC B.os v.k v.n B.on=true)(h1:¬v.op=1)(h2:¬(¬v.s=0/\¬v.s=(Cx B v).t))(h3:¬((Cx B v).e=true/\¬v.op=5)):DE B v=if v.op=4 then(if K1 (Cx B v).hn (Cx B v).hs v.hold=true then 6 else if 5<=(Cx B v).hn then 7 else 0)else if v.op=5 then(if K1 (Cx B v).hn (Cx B v).hs v.hold=true then 0 else 6)else 0:=by unfold DE;rw[if_neg Zce,if_neg h2,if_neg h3,if_neg h1]
theorem Acd (h:CC B.os v.k v.n B.on=false)(hw:Cx B v=Q_)(h1:v.op=1)(hs:v.s=0):DE B v=if 100<=B.on then 7 else 0:=by unfold DE;rw[if_neg Zce,if_neg (λq=>q.1 hs),if_neg (by rw[hw];simp[Q_]),if_pos h1]
end Go.Proofs.YtdknjmgdgnmhjaaGreat
