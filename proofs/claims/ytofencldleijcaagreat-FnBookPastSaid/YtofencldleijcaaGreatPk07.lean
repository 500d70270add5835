import Derived.Test.YtofencldleijcaaGreatPk05
import Derived.Test.YtofencldleijcaaGreatPk03
set_option maxRecDepth 100000
set_option maxHeartbeats 800000
namespace Go.Proofs.YtofencldleijcaaGreat
open Go.RowKit Go.Proofs.Tryz
theorem Qj:∀l:List UInt8,Op.bytesLess l l=false
 |[]=>by simp[Op.bytesLess]
 |c::r=>by simp[Op.bytesLess,Qj r]
theorem Gq{a b:ByteArray}(h:a.toList=b.toList):ER a b=false:=by unfold ER;rw[h];exact Qj _
theorem Rc (x z:Ob):decide (0<=D8 x z)=!CN x z:=by
 unfold D8 CN;by_cases h:x.kind.toList=z.kind.toList;.rw[if_pos h,if_pos h,Gq h];cases h1:ER x.name z.name with
  |true=>simp
  |false=>by_cases h2:x.name.toList=z.name.toList<;>simp[h2]
 .rw[if_neg h,if_neg h];cases h1:ER x.kind z.kind<;>simp
def E3 (n:Nat)(x:Nat->Ob):Bool:=Be (λi=>i==0||CN (x (i-1)) (x i)) n
def Hs (n:Nat)(x:Nat->Ob)(now:Int):Bool:=Be (λi=>Bh (x i) now&&CJ (x i)) n
def DV (n:Nat)(x:Nat->Ob):Bool:=Be (λi=>Be (λk=>decide (¬(x k).ver=(x i).ver)) i) n
def FL (n:Nat)(x:Nat->Ob)(now:Int):Bool:=decide (n<=100)&&(E3 n x&&(Hs n x now&&DV n x))
theorem YK{P:Prop}(h:P:=by
  refine AA Ze Ze ?_;repeat(go_big_quiet_step(first|(go_at_call 70;go_must(exact Bf (K4 (x k) now _ (by first|rfl|exact hen) ah ch _ lo hi mG hfk (by exact Ax.below hs1 (GW.prop _) hh1))))|(go_at_call 60;go_must(exact Bf (PA (x (k-1)) (x k) _ _ _ _ _ _ _)))))
  refine wpQuiet_nil ?_;rintro w2 ⟨u,hu⟩;have hw2:Below W1.1.size W1 w2:=hu▸u.prop;clear hu u;go_wp2;go_ret;exact⟨Av HE.symm,IM.trans (hw2.mono Zb)⟩):P:=h
theorem XX{P:Prop}(h:P:=by
  have qU:=Ag hve;clear hve;go_wp2;go_quiet(fail);go_wp2;go_roundw;case rel=>exact⟨j+1,Zb,by go_num,λm' hm'=>(by
   rcases At m' j with h3|h3;.exact HV m' h3
   .have:m'=j:=Zb;subst this;exact qU),Mf HQ⟩
  case measure=>simp[intOf];omega):P:=h
theorem Yh{P:Prop}(h:P:=by clear hve;go_wp2;go_quiet(fail);go_wp2;go_ret;exact⟨Av HE.symm,hB2.trans (Below.mono (by obtain⟨q',hq'⟩:=Mf (nq:=nq) HQ;rw[hq'];exact BJ _ _) hB2.size)⟩):P:=h
theorem P1 (now floor:Int)(n:Nat)(x:Nat->Ob)(a1 a2 a3:OA)(c1 n2 c2 n3 c3:Nat)(w:World)(lo hi:Nat)(hhi:hi<=w.1.size)(hl:(n:Int)<=1099511627776)(hf:∀i,i<n->DD (x i))(hc:Bs w lo hi a1 n x):Calls prog 42 #[.agg #[.i now,.i floor,.l a1 n c1,.l a2 n2 c2,.l a3 n3 c3]] w λe w'=>e=.returned (.bool (FL n x now))/\Below w.1.size w w':=by
 by_cases h100:(100:Int)<n;.have HE:=Ag (show FL n x now=false by unfold FL;rw[decide_eq_false Zb];rfl);go_enter func42,ntmps42;go_wp2;go_ret;exact⟨Av HE.symm,Am _ _⟩
 go_enter func42,ntmps42;go_wp2;go_loopw[3](λi wr=>∃k:Nat,k<=n/\i=.i k/\(∀j,j<k->(Bh (x j) now=true/\CJ (x j)=true/\(j==0||CN (x (j-1)) (x j))=true/\∀m,m<j->¬(x m).ver=(x j).ver))/\Below w.1.size w wr/\w.1.size<wr.1.size/\wr.cell? ⟨w.1.size,0,none⟩=some (.i now)/\wr.cell? ⟨w.1.size,2,none⟩=some (.slice a1 n c1))(λi _=>n-(intOf i).toNat);case atStart=>exact⟨0,Aw _,rfl,λj hj=>absurd hj (Ai _),Am _ _,Zc,Zc,Zc⟩
 case round=>
  obtain⟨k,hk,rfl,hall,hb,hz,hb0,hb2⟩:=hrel;by_cases hkn:k<n
  .obtain⟨b,off,ah,ch,rfl,hlo,hbh,hcx,hsx⟩:=hc k hkn;have hfk:=hf k hkn;obtain⟨d0,d1,d2,d3,d4,d5,d6⟩:=hcx.below hb Zb;have HA:=Ag hall;have HC:=Ag hc;have HF:=Ag hf;clear hall hc hf hcx;go_wp2;generalize hW:wr.alloc (.cells (vO (x k) ah ch) 61)=W1;have hWs:W1.1.size=wr.1.size+1:=by rw[<-hW];simp
   have hBW:Below w.1.size w W1:=by rw[<-hW];exact hb.alloc hb.size _
   have e0:W1.cell? ⟨wr.1.size,0,none⟩=some (.s (x k).kind):=by rw[<-hW];simp
   have e1:W1.cell? ⟨wr.1.size,1,none⟩=some (.s (x k).name):=by rw[<-hW];simp
   have e2:W1.cell? ⟨wr.1.size,2,none⟩=some (.i (x k).ver):=by rw[<-hW];simp
   have e3:W1.cell? ⟨wr.1.size,3,none⟩=some (.i (x k).born):=by rw[<-hW];simp
   have e4:W1.cell? ⟨wr.1.size,4,none⟩=some (.s (x k).text):=by rw[<-hW];simp
   have e5:W1.cell? ⟨wr.1.size,5,none⟩=some (.bool (x k).ending):=by rw[<-hW];simp
   have e6:W1.cell? ⟨wr.1.size,6,none⟩=some (.slice ah (x k).hn ch):=by rw[<-hW];simp
   have f0:W1.cell? ⟨w.1.size,0,none⟩=some (.i now):=by rw[<-hW,Aq _ _ _ hz];exact hb0
   have f2:W1.cell? ⟨w.1.size,2,none⟩=some (.slice (some ⟨b,off,none⟩) n c1):=by rw[<-hW,Aq _ _ _ hz];exact hb2
   have ro0:=Ah e0 Zj;have ro1:=Ah e1 Zj;have ro2:=Ah e2 Zj;have ro3:=Ah e3 Zj;have ro4:=Ah e4 Zj;have ro5:=Ah e5 Zj;have ro6:=Ah e6 Zj;have rb0:=Ah f0 Zg;have rb2:=Ah f2 Zg;have hs1:=hsx.below hBW hhi;have hh1:hi<=W1.1.size:=Zb;have hne:Nonempty (GW W1):=⟨⟨W1,Al _ _⟩⟩;have IM:=Ag hBW;clear d0 d1 d2 d3 d4 d5 d6 hsx hW hb hb0 hb2 hBW e0 e1 e3 e4 e5 e6;cases hp:Bh (x k) now with
   |false=>have HE:=Ag (show FL n x now=false by unfold FL Hs;rw[AV (p:=λi=>Bh (x i) now&&CJ (x i)) hkn (by rw[hp];rfl)];simp);exact YK
   |true=>
    have HP:=Ag hp;by_cases hst:(x k).ending=true/\(x k).hn=0
    .have HE:=Ag (show FL n x now=false by unfold FL Hs;rw[AV (p:=λi=>Bh (x i) now&&CJ (x i)) hkn (by simp[CJ,hst.1,hst.2])];simp);have hen:=hst.1;have hh0:(((x k).hn:Int)==0)=true:=by simp[hst.2]
     clear hst;exact YK
    .have I0:=Ag (show CJ (x k)=true by unfold CJ;cases he:(x k).ending with
      |false=>rfl
      |true=>simp;exact Nat.pos_of_ne_zero (λh=>hst ⟨he,h⟩));have hpair:((x k).ending=false/\True)\/((x k).ending=true/\(((x k).hn:Int)==0)=false):=by cases he:(x k).ending with
      |false=>exact AO ⟨rfl,trivial⟩
      |true=>exact AD ⟨rfl,by simp;exact λh=>hst ⟨he,h⟩⟩
     clear hst;rcases hpair with⟨hen,hh0⟩|⟨hen,hh0⟩;all_goals
      rcases BF k with hk0|hpos
      .have hg:decide ((0:Int)<(k:Int))=false:=decide_eq_false Zb;have hg2:decide (0<k)=false:=decide_eq_false Zb;have qT:=Ag hk0;clear hk0;refine AA Ze Ze ?_;repeat(go_big_quiet_step(first|(go_at_call 70;go_must(exact Bf (K4 (x k) now _ (by first|rfl|exact hen) ah ch _ lo hi mG hfk (by exact Ax.below hs1 (GW.prop _) hh1))))|(go_at_call 60;go_must(exact Bf (PA (x (k-1)) (x k) _ _ _ _ _ _ _)))))
       refine wpQuiet_nil ?_;rintro w2 ⟨u,hu⟩;have hw2:Below W1.1.size W1 w2:=hu▸u.prop;clear hu u;have hB2:Below w.1.size w w2:=IM.trans (hw2.mono Zb);have o2:=(hw2.cell (p:=⟨wr.1.size,2,none⟩) Zj).trans e2;have g0:=(hw2.cell (p:=⟨w.1.size,0,none⟩) Zg).trans f0;have g2:=(hw2.cell (p:=⟨w.1.size,2,none⟩) Zg).trans f2;have hz2:wr.1.size<w2.1.size:=by have:=hw2.size;omega
       have On:=Ag hw2;clear ro0 ro1 ro2 ro3 ro4 ro5 ro6 rb0 rb2 e2 f0 f2 hne hs1 hw2;go_wp2;go_loopw[5](λi w3=>∃j:Nat,j<=k/\i=.i j/\(∀m',m'<j->¬(x m').ver=(x (k)).ver)/\∃q,w3=w2.drewN q)(λi _=>(k)-(intOf i).toNat);case atStart=>exact⟨0,Aw _,rfl,λj hj=>absurd hj (Ai _),0,rfl⟩
       case round=>
        obtain⟨j,hj,rfl,hvs,q,hq⟩:=hrel;have HQ:=Ag hq;have hcr:∀p,wr.cell? p=w2.cell? p:=λp=>(by rw[hq,World.cell?_drewN]);have o2':=(hcr _).trans o2;have g2':=(hcr _).trans g2;have g0':=(hcr _).trans g0;clear hcr;have hzr:w2.1.size=wr.1.size:=by rw[hq];rfl
        have HV:=Ag hvs;clear hvs;by_cases hjk:j<k
        .obtain⟨b',off',_,_,e,_,hbh',hcj,_⟩:=HC j Zb;cases e;have hvj:wr.cell? ⟨b,off+j*7+2,none⟩=some (.i (x j).ver):=by rw[hq];exact(hcj.below hB2 Zb).c2
         clear hcj hq o2 g2 g0;by_cases hve:(x j).ver=(x (k)).ver
         .have HE:=Ag (show FL n x now=false by unfold FL DV;rw[AV (p:=λi=>Be (λk=>decide (¬(x k).ver=(x i).ver)) i) hkn (AV (p:=λk'=>decide (¬(x k').ver=(x (k)).ver)) hjk (by simp[hve]))];simp);have hvb:((x j).ver==(x (k)).ver)=true:=by simp[hve]
          exact Yh
         .have hvb:((x j).ver==(x (k)).ver)=false:=by simp[hve]
          exact XX
        .have hjk':j=k:=Zb;have mY:=Ag (show Below w.1.size w wr by rw[hq];exact hB2.trans ((BJ _ _).mono hB2.size));have m9:Hid (w.1.size<wr.1.size):=(by rw[<-hzr];omega:w.1.size<wr.1.size);have nG:=Ag (show∀m',m'<k->¬(x m').ver=(x (k)).ver from λm' hm'=>HV.out m' Zb);have i9:=Ag (And.intro g0' g2');clear hq o2 g2 g0 o2' HV;go_wp2;go_roundw;case rel=>exact⟨(k)+1,Zb,by go_num,λm' hm'=>(by
          rcases At m' (k)with h3|h3;.exact HA m' h3
          .have:m'=k:=Zb;subst this;exact⟨HP,I0,by rw[qT.out];rfl,nG⟩),mY.out,m9.out,i9.out.1,i9.out.2⟩
         case measure=>simp[intOf];omega
      .obtain⟨m,rfl⟩:∃m,k=m+1:=⟨k-1,Zb⟩;obtain⟨b',off',ah',ch',e,_,hbh',hcm,_⟩:=HC m Zb;cases e;obtain⟨q0,q1,q2,q3,q4,q5,q6⟩:=hcm.below IM Zb;have rp0:=Ah q0 Zq;have rp1:=Ah q1 Zq;have rp2:=Ah q2 Zq;have rp3:=Ah q3 Zq;have rp4:=Ah q4 Zq;have rp5:=Ah q5 Zq;have rp6:=Ah q6 Zq;have hkb:=Rc (x m) (x (m+1));clear hcm q0 q1 q2 q3 q4 q5 q6;cases hbf:CN (x m) (x (m+1))with
       |false=>
        rw[hbf]at hkb;simp only[Bool.not_false]at hkb;have HE:=Ag (show FL n x now=false by unfold FL E3;rw[AV (p:=λi=>i==0||CN (x (i-1)) (x i)) hkn (by simp[hbf])];simp);refine AA Ze Ze ?_;repeat(go_big_quiet_step(first|(go_at_call 70;go_must(exact Bf (K4 (x (m+1)) now _ (by first|rfl|exact hen) ah ch _ lo hi mG hfk (by exact Ax.below hs1 (GW.prop _) hh1))))|(go_at_call 60;go_must(exact Bf (PA (x m) (x (m+1)) _ _ _ _ _ _ _)))))
        refine wpQuiet_nil ?_;rintro w2 ⟨u,hu⟩;have hw2:Below W1.1.size W1 w2:=hu▸u.prop;clear hu u;go_wp2;go_ret;exact⟨Av HE.symm,IM.trans (hw2.mono Zb)⟩
       |true=>
        rw[hbf]at hkb;simp only[Bool.not_true]at hkb;have qI:=Ag (show(m+1==0||CN (x (m+1-1)) (x (m+1)))=true by simp[hbf]);refine AA Ze Ze ?_;repeat(go_big_quiet_step(first|(go_at_call 70;go_must(exact Bf (K4 (x (m+1)) now _ (by first|rfl|exact hen) ah ch _ lo hi mG hfk (by exact Ax.below hs1 (GW.prop _) hh1))))|(go_at_call 60;go_must(exact Bf (PA (x m) (x (m+1)) _ _ _ _ _ _ _)))))
        refine wpQuiet_nil ?_;rintro w2 ⟨u,hu⟩;have hw2:Below W1.1.size W1 w2:=hu▸u.prop;clear hu u;have hB2:Below w.1.size w w2:=IM.trans (hw2.mono Zb);have o2:=(hw2.cell (p:=⟨wr.1.size,2,none⟩) Zj).trans e2;have g0:=(hw2.cell (p:=⟨w.1.size,0,none⟩) Zg).trans f0;have g2:=(hw2.cell (p:=⟨w.1.size,2,none⟩) Zg).trans f2;have hz2:wr.1.size<w2.1.size:=by have:=hw2.size;omega
        have On:=Ag hw2;clear ro0 ro1 ro2 ro3 ro4 ro5 ro6 rb0 rb2 rp0 rp1 rp2 rp3 rp4 rp5 rp6 hkb e2 f0 f2 hne hs1 hw2;go_wp2;go_loopw[5](λi w3=>∃j:Nat,j<=m+1/\i=.i j/\(∀m',m'<j->¬(x m').ver=(x (m+1)).ver)/\∃q,w3=w2.drewN q)(λi _=>(m+1)-(intOf i).toNat);case atStart=>exact⟨0,Aw _,rfl,λj hj=>absurd hj (Ai _),0,rfl⟩
        case round=>
         obtain⟨j,hj,rfl,hvs,q,hq⟩:=hrel;have HQ:=Ag hq;have hcr:∀p,wr.cell? p=w2.cell? p:=λp=>(by rw[hq,World.cell?_drewN]);have o2':=(hcr _).trans o2;have g2':=(hcr _).trans g2;have g0':=(hcr _).trans g0;clear hcr;have hzr:w2.1.size=wr.1.size:=by rw[hq];rfl
         have HV:=Ag hvs;clear hvs;by_cases hjk:j<m+1
         .obtain⟨b',off',_,_,e,_,hbh',hcj,_⟩:=HC j Zb;cases e;have hvj:wr.cell? ⟨b,off+j*7+2,none⟩=some (.i (x j).ver):=by rw[hq];exact(hcj.below hB2 Zb).c2
          clear hcj hq o2 g2 g0;by_cases hve:(x j).ver=(x (m+1)).ver
          .have HE:=Ag (show FL n x now=false by unfold FL DV;rw[AV (p:=λi=>Be (λk=>decide (¬(x k).ver=(x i).ver)) i) hkn (AV (p:=λk'=>decide (¬(x k').ver=(x (m+1)).ver)) hjk (by simp[hve]))];simp);have hvb:((x j).ver==(x (m+1)).ver)=true:=by simp[hve]
           exact Yh
          .have hvb:((x j).ver==(x (m+1)).ver)=false:=by simp[hve]
           exact XX
         .have hjk':j=m+1:=Zb;have mY:=Ag (show Below w.1.size w wr by rw[hq];exact hB2.trans ((BJ _ _).mono hB2.size));have m9:Hid (w.1.size<wr.1.size):=(by rw[<-hzr];omega:w.1.size<wr.1.size);have nG:=Ag (show∀m',m'<m+1->¬(x m').ver=(x (m+1)).ver from λm' hm'=>HV.out m' Zb);have i9:=Ag (And.intro g0' g2');clear hq o2 g2 g0 o2' HV;go_wp2;go_roundw;case rel=>exact⟨(m+1)+1,Zb,by go_num,λm' hm'=>(by
           rcases At m' (m+1)with h3|h3;.exact HA m' h3
           .have:m'=m+1:=Zb;subst this;exact⟨HP,I0,qI,nG⟩),mY.out,m9.out,i9.out.1,i9.out.2⟩
          case measure=>simp[intOf];omega
  .have hkn':k=n:=Zb;have HE:=Ag (show FL n x now=true by unfold FL E3 Hs DV;rw[decide_eq_true (show n<=100 by omega),AC.2 (λi hi=>(hall i Zb).2.2.1),AC.2 (λi hi=>by rw[(hall i Zb).1,(hall i Zb).2.1];rfl),AC.2 (λi hi=>AC.2 (λk' hk'=>decide_eq_true ((hall i Zb).2.2.2 k' hk')))];rfl);clear hall hc hf;go_wp2;go_ret;exact⟨Av HE.symm,hb⟩
def FK (c:Ch):Bool:=!c.gone&&c.ob.born==c.ver
def H6 (c:Ch)(floor:Int):Bool:=FK c||decide (c.ob.born<=floor)
def Gf (p c:Ch):Bool:=if p.gone||FK c then p.gone&&FK c else p.ob.born==c.ob.born
def E5 (c:Ch)(now:Int):Bool:=c.ob.ver==c.ver&&(Bh c.ob now&&(if c.gone then JZ c.ob else CJ c.ob))
theorem Mm (c:Ch)(ad:OA)(cap:Nat)(w:World):Calls prog 31 #[.agg #[.i c.ver,.bool c.gone,.s c.ob.kind,.s c.ob.name,.i c.ob.ver,.i c.ob.born,.s c.ob.text,.bool c.ob.ending,.l ad c.ob.hn cap]] w λe w'=>e=.returned (.bool (FK c))/\Below w.1.size w w':=by obtain⟨ve,go,ob⟩:=c;dsimp only;cases go with
 |true=>go_enter func31,ntmps31;go_wp2;go_ret;exact⟨rfl,Am _ _⟩
 |false=>go_enter func31,ntmps31;go_wp2;go_ret;exact⟨Av (by simp[FK]),Am _ _⟩
theorem EP (c:Ch)(ad:OA)(cap:Nat)(w:World):Calls prog 59 #[.agg #[.i c.ver,.bool c.gone,.s c.ob.kind,.s c.ob.name,.i c.ob.ver,.i c.ob.born,.s c.ob.text,.bool c.ob.ending,.l ad c.ob.hn cap]] w λe w'=>e=.returned (.bool (FK c))/\Below w.1.size w w':=by obtain⟨ve,go,ob⟩:=c;dsimp only;cases go with
 |true=>go_enter func59,ntmps59;go_wp2;go_ret;exact⟨rfl,Am _ _⟩
 |false=>go_enter func59,ntmps59;go_wp2;go_ret;exact⟨Av (by simp[FK]),Am _ _⟩
theorem Tl{P:Prop}(h:P:=by go_ret;exact⟨Av HE.symm,(Am _ _).trans (hb1.mono Zc)⟩):P:=h
theorem O1 (c:Ch)(floor:Int)(ad:OA)(cap:Nat)(w:World):Calls prog 78 #[.agg #[.i c.ver,.bool c.gone,.s c.ob.kind,.s c.ob.name,.i c.ob.ver,.i c.ob.born,.s c.ob.text,.bool c.ob.ending,.l ad c.ob.hn cap],.i floor] w λe w'=>e=.returned (.bool (H6 c floor))/\Below w.1.size w w':=by cases hcr:FK c with
 |true=>have HE:=Ag (show H6 c floor=true by unfold H6;rw[hcr];rfl);go_enter func78,ntmps78;go_wp2_with (go_at_call 59;refine(EP c ad cap _).mono ?_;rintro e w1 ⟨rfl,hb1⟩);exact Tl
 |false=>have HE:=Ag (show H6 c floor=decide (c.ob.born<=floor)by unfold H6;rw[hcr];rfl);go_enter func78,ntmps78;go_wp2_with (go_at_call 59;refine(EP c ad cap _).mono ?_;rintro e w1 ⟨rfl,hb1⟩;have k5:=As hb1 5;simp only[Ac,Ab,Aa]at k5);exact Tl
theorem QT (c:Ch)(now:Int)(ad:OA)(cap:Nat)(w:World)(lo hi:Nat)(hhi:hi<=w.1.size)(hf:DD c.ob)(hc:Ax w lo hi ad c.ob.hn c.ob.hs):Calls prog 76 #[.agg #[.i c.ver,.bool c.gone,.s c.ob.kind,.s c.ob.name,.i c.ob.ver,.i c.ob.born,.s c.ob.text,.bool c.ob.ending,.l ad c.ob.hn cap],.i now] w λe w'=>e=.returned (.bool (E5 c now))/\Below w.1.size w w':=by
 obtain⟨ve,go,ob⟩:=c;dsimp only at hf hc⊢;have hcA:=λo=>hc.alloc hhi o;have hfh:(ob.hn:Int)<=140737488355328:=by have:=hf.h;omega
 by_cases hv:ob.ver=ve;.subst hv;cases hp:Bh ob now with
  |false=>have HE:=Ag (show E5 ⟨ob.ver,go,ob⟩ now=false by unfold E5;simp[hp]);go_enter func76,ntmps76;go_wp2_with (go_at_call 74;refine(Gt ob now ad cap _ lo hi Zd hf (hcA _)).mono ?_;rintro e w1 ⟨rfl,hb1⟩;rw[hp]);exact Tl
  |true=>cases go with
   |true=>have HE:=Ag (show E5 ⟨ob.ver,true,ob⟩ now=JZ ob by unfold E5;simp[hp]);go_enter func76,ntmps76;go_wp2_with (go_at_call 74;refine(Gt ob now ad cap _ lo hi Zd hf (hcA _)).mono ?_;rintro e w1 ⟨rfl,hb1⟩;have k1:=As hb1 1;have k2:=As hb1 2;have k3:=As hb1 3;have k4:=As hb1 4;have k5:=As hb1 5;have k6:=As hb1 6;have k7:=As hb1 7;have k8:=As hb1 8;simp only[Ac,Ab,Aa]at k1 k2 k3 k4 k5 k6 k7 k8;rw[hp]);go_wp2_with (go_at_call 102;refine(Oz ob ad cap _ hfh).mono ?_;rintro e w2 ⟨rfl,hb2⟩);go_ret;exact⟨Av HE.symm,(Am _ _).trans ((hb1.mono Zc).trans (hb2.mono lA))⟩
   |false=>have HE:=Ag (show E5 ⟨ob.ver,false,ob⟩ now=CJ ob by unfold E5;simp[hp]);go_enter func76,ntmps76;go_wp2_with (go_at_call 74;refine(Gt ob now ad cap _ lo hi Zd hf (hcA _)).mono ?_;rintro e w1 ⟨rfl,hb1⟩;have k1:=As hb1 1;have k2:=As hb1 2;have k3:=As hb1 3;have k4:=As hb1 4;have k5:=As hb1 5;have k6:=As hb1 6;have k7:=As hb1 7;have k8:=As hb1 8;simp only[Ac,Ab,Aa]at k1 k2 k3 k4 k5 k6 k7 k8;rw[hp]);go_wp2_with (go_at_call 75;refine(Ld ob ad cap _ hfh).mono ?_;rintro e w2 ⟨rfl,hb2⟩);go_ret;exact⟨Av HE.symm,(Am _ _).trans ((hb1.mono Zc).trans (hb2.mono lA))⟩
 .have HE:=Ag (show E5 ⟨ve,go,ob⟩ now=false by unfold E5;simp[hv]);have HV:=Ag hv;go_enter func76,ntmps76;go_wp2;go_ret;exact⟨Av HE.symm,Am _ _⟩
end Go.Proofs.YtofencldleijcaaGreat
