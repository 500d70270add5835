import Derived.Test.YtllmmkchokkaaaaGreatDoorPk05
import Derived.Test.YtllmmkchokkaaaaGreatDoorPk02
set_option maxRecDepth 100000
set_option maxHeartbeats 800000
namespace Go.Proofs.YtllmmkchokkaaaaGreatDoor
open Go.RowKit Go.Proofs.Tryz
theorem SK:∀l:List UInt8,Op.bytesLess l l=false
 |[]=>by simp[Op.bytesLess]
 |c::r=>by simp[Op.bytesLess,SK r]
theorem GJ{a b:ByteArray}(h:a.toList=b.toList):D4 a b=false:=by unfold D4;rw[h];exact SK _
theorem TY(x z:Ob):decide (0<=Eo x z)=!DH x z:=by
 unfold Eo DH;by_cases h:x.kind.toList=z.kind.toList;.rw[if_pos h,if_pos h,GJ h];cases h1:D4 x.name z.name with
  |true=>simp
  |false=>by_cases h2:x.name.toList=z.name.toList<;>simp[h2]
 .rw[if_neg h,if_neg h];cases h1:D4 x.kind z.kind<;>simp
def Ih(n:Nat)(x:Nat->Ob):Bool:=Bi (λi=>i==0||DH (x (i-1)) (x i)) n
def JG(n:Nat)(x:Nat->Ob)(now:Int):Bool:=Bi (λi=>BM (x i) now&&CX (x i)) n
def ER (n:Nat)(x:Nat->Ob):Bool:=Bi (λi=>Bi (λk=>decide (¬(x k).ver=(x i).ver)) i) n
def Ge (n:Nat)(x:Nat->Ob)(now:Int):Bool:=decide (n<=100)&&(Ih n x&&(JG n x now&&ER n x))
theorem eN{P:Prop}(h:P:=by
  refine Ay Zc Zc ?_;repeat(go_big_quiet_step(first|(go_at_call 126;go_must(exact AY (ME (x k) now _ (by first|rfl|exact hen) ah ch _ lo hi uG hfk (by exact AB.below hs1 (GW.prop _) hh1))))|(go_at_call 127;go_must(exact AY (RU (x (k-1)) (x k) _ _ _ _ _ _ _)))))
  refine wpQuiet_nil ?_;rintro w2⟨u,hu⟩;have hw2:Below W1.1.size W1 w2:=hu▸u.prop;clear hu u;go_wp2;go_ret;exact⟨Av HE.symm,Jd.trans (hw2.mono Za)⟩):P:=h
theorem d9{P:Prop}(h:P:=by
  have zJ:=Ai hve;clear hve;go_wp2;go_quiet(fail);go_wp2;go_roundw;case rel=>exact⟨j+1,Za,by go_num,λm' hm'=>(by
   rcases As m' j with h3|h3;.exact HV m' h3
   .have:m'=j:=Za;subst this;exact zJ),PJ HQ⟩
  case measure=>simp[intOf];omega):P:=h
theorem jC{P:Prop}(h:P:=by clear hve;go_wp2;go_quiet(fail);go_wp2;go_ret;exact⟨Av HE.symm,hB2.trans (Below.mono (by obtain⟨q',hq'⟩:=PJ (nq:=nq) HQ;rw[hq'];exact By _ _) hB2.size)⟩):P:=h
theorem RW (now floor:Int)(n:Nat)(x:Nat->Ob)(a1 a2 a3:OA)(c1 n2 c2 n3 c3:Nat)(w:World)(lo hi:Nat)(hhi:hi<=w.1.size)(hl:(n:Int)<=1099511627776)(hf:∀i,i<n->CW (x i))(hc:BH w lo hi a1 n x):Calls prog 71 #[.agg #[.i now,.i floor,.l a1 n c1,.l a2 n2 c2,.l a3 n3 c3]] w λe w'=>e=.returned (.bool (Ge n x now))/\Below w.1.size w w':=by
 by_cases h100:(100:Int)<n;.have HE:=Ai (show Ge n x now=false by unfold Ge;rw[decide_eq_false Za];rfl);go_enter func71,ntmps71;go_wp2;go_ret;exact⟨Av HE.symm,An _ _⟩
 go_enter func71,ntmps71;go_wp2;go_loopw[3](λi wr=>∃k:Nat,k<=n/\i=.i k/\(∀j,j<k->(BM (x j) now=true/\CX (x j)=true/\(j==0||DH (x (j-1)) (x j))=true/\∀m,m<j->¬(x m).ver=(x j).ver))/\Below w.1.size w wr/\w.1.size<wr.1.size/\wr.cell? ⟨w.1.size,0,none⟩=some (.i now)/\wr.cell? ⟨w.1.size,2,none⟩=some (.slice a1 n c1))(λi _=>n-(intOf i).toNat);case atStart=>exact⟨0,Ap _,rfl,λj hj=>absurd hj (Al _),An _ _,Ze,Ze,Ze⟩
 case round=>
  obtain⟨k,hk,rfl,hall,hb,hz,hb0,hb2⟩:=hrel;by_cases hkn:k<n
  .obtain⟨b,off,ah,ch,rfl,hlo,hbh,hcx,hsx⟩:=hc k hkn;have hfk:=hf k hkn;obtain⟨d0,d1,d2,d3,d4,d5,d6⟩:=hcx.below hb Za;have HA:=Ai hall;have HC:=Ai hc;have HF:=Ai hf;clear hall hc hf hcx;go_wp2;generalize hW:wr.alloc (.cells (vO (x k) ah ch) 118)=W1;have hWs:W1.1.size=wr.1.size+1:=by rw[<-hW];simp
   have hBW:Below w.1.size w W1:=by rw[<-hW];exact hb.alloc hb.size _
   have e0:W1.cell? ⟨wr.1.size,0,none⟩=some (.s (x k).kind):=by rw[<-hW];simp
   have e1:W1.cell? ⟨wr.1.size,1,none⟩=some (.s (x k).name):=by rw[<-hW];simp
   have e2:W1.cell? ⟨wr.1.size,2,none⟩=some (.i (x k).ver):=by rw[<-hW];simp
   have e3:W1.cell? ⟨wr.1.size,3,none⟩=some (.i (x k).born):=by rw[<-hW];simp
   have e4:W1.cell? ⟨wr.1.size,4,none⟩=some (.s (x k).text):=by rw[<-hW];simp
   have e5:W1.cell? ⟨wr.1.size,5,none⟩=some (.bool (x k).ending):=by rw[<-hW];simp
   have e6:W1.cell? ⟨wr.1.size,6,none⟩=some (.slice ah (x k).hn ch):=by rw[<-hW];simp
   have f0:W1.cell? ⟨w.1.size,0,none⟩=some (.i now):=by rw[<-hW,Ar _ _ _ hz];exact hb0
   have f2:W1.cell? ⟨w.1.size,2,none⟩=some (.slice (some ⟨b,off,none⟩) n c1):=by rw[<-hW,Ar _ _ _ hz];exact hb2
   have ro0:=Aj e0 Zl;have ro1:=Aj e1 Zl;have ro2:=Aj e2 Zl;have ro3:=Aj e3 Zl;have ro4:=Aj e4 Zl;have ro5:=Aj e5 Zl;have ro6:=Aj e6 Zl;have rb0:=Aj f0 Zg;have rb2:=Aj f2 Zg;have hs1:=hsx.below hBW hhi;have hh1:hi<=W1.1.size:=Za;have hne:Nonempty (GW W1):=⟨⟨W1,Ak _ _⟩⟩;have Jd:=Ai hBW;clear d0 d1 d2 d3 d4 d5 d6 hsx hW hb hb0 hb2 hBW e0 e1 e3 e4 e5 e6;cases hp:BM (x k) now with
   |false=>have HE:=Ai (show Ge n x now=false by unfold Ge JG;rw[A9 (p:=λi=>BM (x i) now&&CX (x i)) hkn (by rw[hp];rfl)];simp);exact eN
   |true=>
    have HP:=Ai hp;by_cases hst:(x k).ending=true/\(x k).hn=0
    .have HE:=Ai (show Ge n x now=false by unfold Ge JG;rw[A9 (p:=λi=>BM (x i) now&&CX (x i)) hkn (by simp[CX,hst.1,hst.2])];simp);have hen:=hst.1;have hh0:(((x k).hn:Int)==0)=true:=by simp[hst.2]
     clear hst;exact eN
    .have Da:=Ai (show CX (x k)=true by unfold CX;cases he:(x k).ending with
      |false=>rfl
      |true=>simp;exact Nat.pos_of_ne_zero (λh=>hst ⟨he,h⟩));have hpair:((x k).ending=false/\True)\/((x k).ending=true/\(((x k).hn:Int)==0)=false):=by cases he:(x k).ending with
      |false=>exact AD ⟨rfl,trivial⟩
      |true=>exact Ax ⟨rfl,by simp;exact λh=>hst ⟨he,h⟩⟩
     clear hst;rcases hpair with⟨hen,hh0⟩|⟨hen,hh0⟩;all_goals
      rcases AW k with hk0|hpos
      .have hg:decide ((0:Int)<(k:Int))=false:=decide_eq_false Za;have hg2:decide (0<k)=false:=decide_eq_false Za;have zO:=Ai hk0;clear hk0;refine Ay Zc Zc ?_;repeat(go_big_quiet_step(first|(go_at_call 126;go_must(exact AY (ME (x k) now _ (by first|rfl|exact hen) ah ch _ lo hi uG hfk (by exact AB.below hs1 (GW.prop _) hh1))))|(go_at_call 127;go_must(exact AY (RU (x (k-1)) (x k) _ _ _ _ _ _ _)))))
       refine wpQuiet_nil ?_;rintro w2⟨u,hu⟩;have hw2:Below W1.1.size W1 w2:=hu▸u.prop;clear hu u;have hB2:Below w.1.size w w2:=Jd.trans (hw2.mono Za);have o2:=(hw2.cell (p:=⟨wr.1.size,2,none⟩) Zl).trans e2;have g0:=(hw2.cell (p:=⟨w.1.size,0,none⟩) Zg).trans f0;have g2:=(hw2.cell (p:=⟨w.1.size,2,none⟩) Zg).trans f2;have hz2:wr.1.size<w2.1.size:=by have:=hw2.size;omega
       have zU:=Ai hw2;clear ro0 ro1 ro2 ro3 ro4 ro5 ro6 rb0 rb2 e2 f0 f2 hne hs1 hw2;go_wp2;go_loopw[5](λi w3=>∃j:Nat,j<=k/\i=.i j/\(∀m',m'<j->¬(x m').ver=(x (k)).ver)/\∃q,w3=w2.drewN q)(λi _=>(k)-(intOf i).toNat);case atStart=>exact⟨0,Ap _,rfl,λj hj=>absurd hj (Al _),0,rfl⟩
       case round=>
        obtain⟨j,hj,rfl,hvs,q,hq⟩:=hrel;have HQ:=Ai hq;have hcr:∀p,wr.cell? p=w2.cell? p:=λp=>(by rw[hq,World.cell?_drewN]);have o2':=(hcr _).trans o2;have g2':=(hcr _).trans g2;have g0':=(hcr _).trans g0;clear hcr;have hzr:w2.1.size=wr.1.size:=by rw[hq];rfl
        have HV:=Ai hvs;clear hvs;by_cases hjk:j<k
        .obtain⟨b',off',_,_,e,_,hbh',hcj,_⟩:=HC j Za;cases e;have hvj:wr.cell? ⟨b,off+j*7+2,none⟩=some (.i (x j).ver):=by rw[hq];exact(hcj.below hB2 Za).c2
         clear hcj hq o2 g2 g0;by_cases hve:(x j).ver=(x (k)).ver
         .have HE:=Ai (show Ge n x now=false by unfold Ge ER;rw[A9 (p:=λi=>Bi (λk=>decide (¬(x k).ver=(x i).ver)) i) hkn (A9 (p:=λk'=>decide (¬(x k').ver=(x (k)).ver)) hjk (by simp[hve]))];simp);have hvb:((x j).ver==(x (k)).ver)=true:=by simp[hve]
          exact jC
         .have hvb:((x j).ver==(x (k)).ver)=false:=by simp[hve]
          exact d9
        .have hjk':j=k:=Za;have uW:=Ai (show Below w.1.size w wr by rw[hq];exact hB2.trans ((By _ _).mono hB2.size));have vI:Hid (w.1.size<wr.1.size):=(by rw[<-hzr];omega:w.1.size<wr.1.size);have xH:=Ai (show∀m',m'<k->¬(x m').ver=(x (k)).ver from λm' hm'=>HV.out m' Za);have tK:=Ai (Lh g0' g2');clear hq o2 g2 g0 o2' HV;go_wp2;go_roundw;case rel=>exact⟨(k)+1,Za,by go_num,λm' hm'=>(by
          rcases As m' (k)with h3|h3;.exact HA m' h3
          .have:m'=k:=Za;subst this;exact⟨HP,Da,by rw[zO.out];rfl,xH⟩),uW.out,vI.out,tK.out.1,tK.out.2⟩
         case measure=>simp[intOf];omega
      .obtain⟨m,rfl⟩:∃m,k=m+1:=⟨k-1,Za⟩;obtain⟨b',off',ah',ch',e,_,hbh',hcm,_⟩:=HC m Za;cases e;obtain⟨q0,q1,q2,q3,q4,q5,q6⟩:=hcm.below Jd Za;have rp0:=Aj q0 Zj;have rp1:=Aj q1 Zj;have rp2:=Aj q2 Zj;have rp3:=Aj q3 Zj;have rp4:=Aj q4 Zj;have rp5:=Aj q5 Zj;have rp6:=Aj q6 Zj;have hkb:=TY (x m) (x (m+1));clear hcm q0 q1 q2 q3 q4 q5 q6;cases hbf:DH (x m) (x (m+1))with
       |false=>
        rw[hbf]at hkb;simp only[Bool.not_false]at hkb;have HE:=Ai (show Ge n x now=false by unfold Ge Ih;rw[A9 (p:=λi=>i==0||DH (x (i-1)) (x i)) hkn (by simp[hbf])];simp);refine Ay Zc Zc ?_;repeat(go_big_quiet_step(first|(go_at_call 126;go_must(exact AY (ME (x (m+1)) now _ (by first|rfl|exact hen) ah ch _ lo hi uG hfk (by exact AB.below hs1 (GW.prop _) hh1))))|(go_at_call 127;go_must(exact AY (RU (x m) (x (m+1)) _ _ _ _ _ _ _)))))
        refine wpQuiet_nil ?_;rintro w2⟨u,hu⟩;have hw2:Below W1.1.size W1 w2:=hu▸u.prop;clear hu u;go_wp2;go_ret;exact⟨Av HE.symm,Jd.trans (hw2.mono Za)⟩
       |true=>
        rw[hbf]at hkb;simp only[Bool.not_true]at hkb;have zQ:=Ai (show(m+1==0||DH (x (m+1-1)) (x (m+1)))=true by simp[hbf]);refine Ay Zc Zc ?_;repeat(go_big_quiet_step(first|(go_at_call 126;go_must(exact AY (ME (x (m+1)) now _ (by first|rfl|exact hen) ah ch _ lo hi uG hfk (by exact AB.below hs1 (GW.prop _) hh1))))|(go_at_call 127;go_must(exact AY (RU (x m) (x (m+1)) _ _ _ _ _ _ _)))))
        refine wpQuiet_nil ?_;rintro w2⟨u,hu⟩;have hw2:Below W1.1.size W1 w2:=hu▸u.prop;clear hu u;have hB2:Below w.1.size w w2:=Jd.trans (hw2.mono Za);have o2:=(hw2.cell (p:=⟨wr.1.size,2,none⟩) Zl).trans e2;have g0:=(hw2.cell (p:=⟨w.1.size,0,none⟩) Zg).trans f0;have g2:=(hw2.cell (p:=⟨w.1.size,2,none⟩) Zg).trans f2;have hz2:wr.1.size<w2.1.size:=by have:=hw2.size;omega
        have zU:=Ai hw2;clear ro0 ro1 ro2 ro3 ro4 ro5 ro6 rb0 rb2 rp0 rp1 rp2 rp3 rp4 rp5 rp6 hkb e2 f0 f2 hne hs1 hw2;go_wp2;go_loopw[5](λi w3=>∃j:Nat,j<=m+1/\i=.i j/\(∀m',m'<j->¬(x m').ver=(x (m+1)).ver)/\∃q,w3=w2.drewN q)(λi _=>(m+1)-(intOf i).toNat);case atStart=>exact⟨0,Ap _,rfl,λj hj=>absurd hj (Al _),0,rfl⟩
        case round=>
         obtain⟨j,hj,rfl,hvs,q,hq⟩:=hrel;have HQ:=Ai hq;have hcr:∀p,wr.cell? p=w2.cell? p:=λp=>(by rw[hq,World.cell?_drewN]);have o2':=(hcr _).trans o2;have g2':=(hcr _).trans g2;have g0':=(hcr _).trans g0;clear hcr;have hzr:w2.1.size=wr.1.size:=by rw[hq];rfl
         have HV:=Ai hvs;clear hvs;by_cases hjk:j<m+1
         .obtain⟨b',off',_,_,e,_,hbh',hcj,_⟩:=HC j Za;cases e;have hvj:wr.cell? ⟨b,off+j*7+2,none⟩=some (.i (x j).ver):=by rw[hq];exact(hcj.below hB2 Za).c2
          clear hcj hq o2 g2 g0;by_cases hve:(x j).ver=(x (m+1)).ver
          .have HE:=Ai (show Ge n x now=false by unfold Ge ER;rw[A9 (p:=λi=>Bi (λk=>decide (¬(x k).ver=(x i).ver)) i) hkn (A9 (p:=λk'=>decide (¬(x k').ver=(x (m+1)).ver)) hjk (by simp[hve]))];simp);have hvb:((x j).ver==(x (m+1)).ver)=true:=by simp[hve]
           exact jC
          .have hvb:((x j).ver==(x (m+1)).ver)=false:=by simp[hve]
           exact d9
         .have hjk':j=m+1:=Za;have uW:=Ai (show Below w.1.size w wr by rw[hq];exact hB2.trans ((By _ _).mono hB2.size));have vI:Hid (w.1.size<wr.1.size):=(by rw[<-hzr];omega:w.1.size<wr.1.size);have xH:=Ai (show∀m',m'<m+1->¬(x m').ver=(x (m+1)).ver from λm' hm'=>HV.out m' Za);have tK:=Ai (Lh g0' g2');clear hq o2 g2 g0 o2' HV;go_wp2;go_roundw;case rel=>exact⟨(m+1)+1,Za,by go_num,λm' hm'=>(by
           rcases As m' (m+1)with h3|h3;.exact HA m' h3
           .have:m'=m+1:=Za;subst this;exact⟨HP,Da,zQ,xH⟩),uW.out,vI.out,tK.out.1,tK.out.2⟩
          case measure=>simp[intOf];omega
  .have hkn':k=n:=Za;have HE:=Ai (show Ge n x now=true by unfold Ge Ih JG ER;rw[decide_eq_true (show n<=100 by omega),Bm.2 (λi hi=>(hall i Za).2.2.1),Bm.2 (λi hi=>by rw[(hall i Za).1,(hall i Za).2.1];rfl),Bm.2 (λi hi=>Bm.2 (λk' hk'=>decide_eq_true ((hall i Za).2.2.2 k' hk')))];rfl);clear hall hc hf;go_wp2;go_ret;exact⟨Av HE.symm,hb⟩
end Go.Proofs.YtllmmkchokkaaaaGreatDoor
