import Derived.Test.YtnnjcenacidceaaPk06
import Derived.Test.YtnnjcenacidceaaPk03
set_option maxRecDepth 100000
set_option maxHeartbeats 800000
namespace Go.Proofs.Ytnnjcenacidceaa
open Go.RowKit Go.Proofs.Try
theorem Um:∀l:List UInt8,Op.bytesLess l l=false
 |[]=>by simp[Op.bytesLess]
 |c::r=>by simp[Op.bytesLess,Um r]
theorem LL{a b:ByteArray}(h:a.toList=b.toList):KW a b=false:=by unfold KW;rw[h];exact Um _
theorem UE (x z:Ob):decide (0<=Fs x z)=!Fd x z:=by
 unfold Fs Fd;by_cases h:x.kind.toList=z.kind.toList;.rw[if_pos h,if_pos h,LL h];cases h1:KW x.name z.name with
  |true=>simp
  |false=>by_cases h2:x.name.toList=z.name.toList<;>simp[h2]
 .rw[if_neg h,if_neg h];cases h1:KW x.kind z.kind<;>simp
def K8 (n:Nat)(x:Nat->Ob):Bool:=Bc (λi=>i==0||Fd (x (i-1)) (x i)) n
def Ml (n:Nat)(x:Nat->Ob)(now:Int):Bool:=Bc (λi=>Bg (x i) now&&CW (x i)) n
def EX (n:Nat)(x:Nat->Ob):Bool:=Bc (λi=>Bc (λk=>decide (¬(x k).ver=(x i).ver)) i) n
def Lk (n:Nat)(x:Nat->Ob)(now:Int):Bool:=decide (n<=100)&&(K8 n x&&(Ml n x now&&EX n x))
theorem fG{P:Prop}(h:P:=by
  refine AE Ze Ze ?_;repeat(go_big_quiet_step(first|(go_at_call 61;go_must(exact Bf (OH (x k) now _ (by first|rfl|exact hen) ah ch _ lo hi wN hfk (by exact AB.below hs1 (GW.prop _) hh1))))|(go_at_call 62;go_must(exact Bf (TP (x (k-1)) (x k) _ _ _ _ _ _ _)))))
  refine wpQuiet_nil ?_;rintro w2 ⟨u,hu⟩;have hw2:Below W1.1.size W1 w2:=hu▸u.prop;clear hu u;go_wp2;go_ret;exact⟨Ay HE.symm,Ma.trans (hw2.mono Za)⟩):P:=h
theorem eH{P:Prop}(h:P:=by
  have yS:=Ah hve;clear hve;go_wp2;go_quiet(fail);go_wp2;go_roundw;case rel=>exact⟨j+1,Za,by go_num,λm' hm'=>(by
   rcases Au m' j with h3|h3;.exact HV m' h3
   .have:m'=j:=Za;subst this;exact yS),P9 HQ⟩
  case measure=>simp[intOf];omega):P:=h
theorem eL{P:Prop}(h:P:=by clear hve;go_wp2;go_quiet(fail);go_wp2;go_ret;exact⟨Ay HE.symm,hB2.trans (Below.mono (by obtain⟨q',hq'⟩:=P9 (nq:=nq) HQ;rw[hq'];exact BH _ _) hB2.size)⟩):P:=h
theorem Tq (now floor:Int)(n:Nat)(x:Nat->Ob)(a1 a2 a3:OA)(c1 n2 c2 n3 c3:Nat)(w:World)(lo hi:Nat)(hhi:hi<=w.1.size)(hl:(n:Int)<=1099511627776)(hf:∀i,i<n->Ef (x i))(hc:B4 w lo hi a1 n x):Calls prog 38 #[.agg #[.i now,.i floor,.l a1 n c1,.l a2 n2 c2,.l a3 n3 c3]] w λe w'=>e=.returned (.bool (Lk n x now))/\Below w.1.size w w':=by
 by_cases h100:(100:Int)<n;.have HE:=Ah (show Lk n x now=false by unfold Lk;rw[decide_eq_false Za];rfl);go_enter func38,ntmps38;go_wp2;go_ret;exact⟨Ay HE.symm,Am _ _⟩
 go_enter func38,ntmps38;go_wp2;go_loopw[3](λi wr=>∃k:Nat,k<=n/\i=.i k/\(∀j,j<k->(Bg (x j) now=true/\CW (x j)=true/\(j==0||Fd (x (j-1)) (x j))=true/\∀m,m<j->¬(x m).ver=(x j).ver))/\Below w.1.size w wr/\w.1.size<wr.1.size/\wr.cell? ⟨w.1.size,0,none⟩=some (.i now)/\wr.cell? ⟨w.1.size,2,none⟩=some (.slice a1 n c1))(λi _=>n-(intOf i).toNat);case atStart=>exact⟨0,At _,rfl,λj hj=>absurd hj (Aj _),Am _ _,Zc,Zc,Zc⟩
 case round=>
  obtain⟨k,hk,rfl,hall,hb,hz,hb0,hb2⟩:=hrel;by_cases hkn:k<n
  .obtain⟨b,off,ah,ch,rfl,hlo,hbh,hcx,hsx⟩:=hc k hkn;have hfk:=hf k hkn;obtain⟨d0,d1,d2,d3,d4,d5,d6⟩:=hcx.below hb Za;have HA:=Ah hall;have HC:=Ah hc;have HF:=Ah hf;clear hall hc hf hcx;go_wp2;generalize hW:wr.alloc (.cells (vO (x k) ah ch) 38)=W1;have hWs:W1.1.size=wr.1.size+1:=by rw[<-hW];simp
   have hBW:Below w.1.size w W1:=by rw[<-hW];exact hb.alloc hb.size _
   have e0:W1.cell? ⟨wr.1.size,0,none⟩=some (.s (x k).kind):=by rw[<-hW];simp
   have e1:W1.cell? ⟨wr.1.size,1,none⟩=some (.s (x k).name):=by rw[<-hW];simp
   have e2:W1.cell? ⟨wr.1.size,2,none⟩=some (.i (x k).ver):=by rw[<-hW];simp
   have e3:W1.cell? ⟨wr.1.size,3,none⟩=some (.i (x k).born):=by rw[<-hW];simp
   have e4:W1.cell? ⟨wr.1.size,4,none⟩=some (.s (x k).text):=by rw[<-hW];simp
   have e5:W1.cell? ⟨wr.1.size,5,none⟩=some (.bool (x k).ending):=by rw[<-hW];simp
   have e6:W1.cell? ⟨wr.1.size,6,none⟩=some (.slice ah (x k).hn ch):=by rw[<-hW];simp
   have f0:W1.cell? ⟨w.1.size,0,none⟩=some (.i now):=by rw[<-hW,Ap _ _ _ hz];exact hb0
   have f2:W1.cell? ⟨w.1.size,2,none⟩=some (.slice (some ⟨b,off,none⟩) n c1):=by rw[<-hW,Ap _ _ _ hz];exact hb2
   have ro0:=Ai e0 Zj;have ro1:=Ai e1 Zj;have ro2:=Ai e2 Zj;have ro3:=Ai e3 Zj;have ro4:=Ai e4 Zj;have ro5:=Ai e5 Zj;have ro6:=Ai e6 Zj;have rb0:=Ai f0 Zg;have rb2:=Ai f2 Zg;have hs1:=hsx.below hBW hhi;have hh1:hi<=W1.1.size:=Za;have hne:Nonempty (GW W1):=⟨⟨W1,Ao _ _⟩⟩;have Ma:=Ah hBW;clear d0 d1 d2 d3 d4 d5 d6 hsx hW hb hb0 hb2 hBW e0 e1 e3 e4 e5 e6;cases hp:Bg (x k) now with
   |false=>have HE:=Ah (show Lk n x now=false by unfold Lk Ml;rw[AX (p:=λi=>Bg (x i) now&&CW (x i)) hkn (by rw[hp];rfl)];simp);exact fG
   |true=>
    have HP:=Ah hp;by_cases hst:(x k).ending=true/\(x k).hn=0
    .have HE:=Ah (show Lk n x now=false by unfold Lk Ml;rw[AX (p:=λi=>Bg (x i) now&&CW (x i)) hkn (by simp[CW,hst.1,hst.2])];simp);have hen:=hst.1;have hh0:(((x k).hn:Int)==0)=true:=by simp[hst.2]
     clear hst;exact fG
    .have MU:=Ah (show CW (x k)=true by unfold CW;cases he:(x k).ending with
      |false=>rfl
      |true=>simp;exact Nat.pos_of_ne_zero (λh=>hst ⟨he,h⟩));have hpair:((x k).ending=false/\True)\/((x k).ending=true/\(((x k).hn:Int)==0)=false):=by cases he:(x k).ending with
      |false=>exact AA ⟨rfl,trivial⟩
      |true=>exact AC ⟨rfl,by simp;exact λh=>hst ⟨he,h⟩⟩
     clear hst;rcases hpair with⟨hen,hh0⟩|⟨hen,hh0⟩;all_goals
      rcases Bm k with hk0|hpos
      .have hg:decide ((0:Int)<(k:Int))=false:=decide_eq_false Za;have hg2:decide (0<k)=false:=decide_eq_false Za;have jN:=Ah hk0;clear hk0;refine AE Ze Ze ?_;repeat(go_big_quiet_step(first|(go_at_call 61;go_must(exact Bf (OH (x k) now _ (by first|rfl|exact hen) ah ch _ lo hi wN hfk (by exact AB.below hs1 (GW.prop _) hh1))))|(go_at_call 62;go_must(exact Bf (TP (x (k-1)) (x k) _ _ _ _ _ _ _)))))
       refine wpQuiet_nil ?_;rintro w2 ⟨u,hu⟩;have hw2:Below W1.1.size W1 w2:=hu▸u.prop;clear hu u;have hB2:Below w.1.size w w2:=Ma.trans (hw2.mono Za);have o2:=(hw2.cell (p:=⟨wr.1.size,2,none⟩) Zj).trans e2;have g0:=(hw2.cell (p:=⟨w.1.size,0,none⟩) Zg).trans f0;have g2:=(hw2.cell (p:=⟨w.1.size,2,none⟩) Zg).trans f2;have hz2:wr.1.size<w2.1.size:=by have:=hw2.size;omega
       have QK:=Ah hw2;clear ro0 ro1 ro2 ro3 ro4 ro5 ro6 rb0 rb2 e2 f0 f2 hne hs1 hw2;go_wp2;go_loopw[5](λi w3=>∃j:Nat,j<=k/\i=.i j/\(∀m',m'<j->¬(x m').ver=(x (k)).ver)/\∃q,w3=w2.drewN q)(λi _=>(k)-(intOf i).toNat);case atStart=>exact⟨0,At _,rfl,λj hj=>absurd hj (Aj _),0,rfl⟩
       case round=>
        obtain⟨j,hj,rfl,hvs,q,hq⟩:=hrel;have HQ:=Ah hq;have hcr:∀p,wr.cell? p=w2.cell? p:=λp=>(by rw[hq,World.cell?_drewN]);have o2':=(hcr _).trans o2;have g2':=(hcr _).trans g2;have g0':=(hcr _).trans g0;clear hcr;have hzr:w2.1.size=wr.1.size:=by rw[hq];rfl
        have HV:=Ah hvs;clear hvs;by_cases hjk:j<k
        .obtain⟨b',off',_,_,e,_,hbh',hcj,_⟩:=HC j Za;cases e;have hvj:wr.cell? ⟨b,off+j*7+2,none⟩=some (.i (x j).ver):=by rw[hq];exact(hcj.below hB2 Za).c2
         clear hcj hq o2 g2 g0;by_cases hve:(x j).ver=(x (k)).ver
         .have HE:=Ah (show Lk n x now=false by unfold Lk EX;rw[AX (p:=λi=>Bc (λk=>decide (¬(x k).ver=(x i).ver)) i) hkn (AX (p:=λk'=>decide (¬(x k').ver=(x (k)).ver)) hjk (by simp[hve]))];simp);have hvb:((x j).ver==(x (k)).ver)=true:=by simp[hve]
          exact eL
         .have hvb:((x j).ver==(x (k)).ver)=false:=by simp[hve]
          exact eH
        .have hjk':j=k:=Za;have vV:=Ah (show Below w.1.size w wr by rw[hq];exact hB2.trans ((BH _ _).mono hB2.size));have uS:Hid (w.1.size<wr.1.size):=(by rw[<-hzr];omega:w.1.size<wr.1.size);have wF:=Ah (show∀m',m'<k->¬(x m').ver=(x (k)).ver from λm' hm'=>HV.out m' Za);have sF:=Ah (And.intro g0' g2');clear hq o2 g2 g0 o2' HV;go_wp2;go_roundw;case rel=>exact⟨(k)+1,Za,by go_num,λm' hm'=>(by
          rcases Au m' (k)with h3|h3;.exact HA m' h3
          .have:m'=k:=Za;subst this;exact⟨HP,MU,by rw[jN.out];rfl,wF⟩),vV.out,uS.out,sF.out.1,sF.out.2⟩
         case measure=>simp[intOf];omega
      .obtain⟨m,rfl⟩:∃m,k=m+1:=⟨k-1,Za⟩;obtain⟨b',off',ah',ch',e,_,hbh',hcm,_⟩:=HC m Za;cases e;obtain⟨q0,q1,q2,q3,q4,q5,q6⟩:=hcm.below Ma Za;have rp0:=Ai q0 Zk;have rp1:=Ai q1 Zk;have rp2:=Ai q2 Zk;have rp3:=Ai q3 Zk;have rp4:=Ai q4 Zk;have rp5:=Ai q5 Zk;have rp6:=Ai q6 Zk;have hkb:=UE (x m) (x (m+1));clear hcm q0 q1 q2 q3 q4 q5 q6;cases hbf:Fd (x m) (x (m+1))with
       |false=>
        rw[hbf]at hkb;simp only[Bool.not_false]at hkb;have HE:=Ah (show Lk n x now=false by unfold Lk K8;rw[AX (p:=λi=>i==0||Fd (x (i-1)) (x i)) hkn (by simp[hbf])];simp);refine AE Ze Ze ?_;repeat(go_big_quiet_step(first|(go_at_call 61;go_must(exact Bf (OH (x (m+1)) now _ (by first|rfl|exact hen) ah ch _ lo hi wN hfk (by exact AB.below hs1 (GW.prop _) hh1))))|(go_at_call 62;go_must(exact Bf (TP (x m) (x (m+1)) _ _ _ _ _ _ _)))))
        refine wpQuiet_nil ?_;rintro w2 ⟨u,hu⟩;have hw2:Below W1.1.size W1 w2:=hu▸u.prop;clear hu u;go_wp2;go_ret;exact⟨Ay HE.symm,Ma.trans (hw2.mono Za)⟩
       |true=>
        rw[hbf]at hkb;simp only[Bool.not_true]at hkb;have yW:=Ah (show(m+1==0||Fd (x (m+1-1)) (x (m+1)))=true by simp[hbf]);refine AE Ze Ze ?_;repeat(go_big_quiet_step(first|(go_at_call 61;go_must(exact Bf (OH (x (m+1)) now _ (by first|rfl|exact hen) ah ch _ lo hi wN hfk (by exact AB.below hs1 (GW.prop _) hh1))))|(go_at_call 62;go_must(exact Bf (TP (x m) (x (m+1)) _ _ _ _ _ _ _)))))
        refine wpQuiet_nil ?_;rintro w2 ⟨u,hu⟩;have hw2:Below W1.1.size W1 w2:=hu▸u.prop;clear hu u;have hB2:Below w.1.size w w2:=Ma.trans (hw2.mono Za);have o2:=(hw2.cell (p:=⟨wr.1.size,2,none⟩) Zj).trans e2;have g0:=(hw2.cell (p:=⟨w.1.size,0,none⟩) Zg).trans f0;have g2:=(hw2.cell (p:=⟨w.1.size,2,none⟩) Zg).trans f2;have hz2:wr.1.size<w2.1.size:=by have:=hw2.size;omega
        have QK:=Ah hw2;clear ro0 ro1 ro2 ro3 ro4 ro5 ro6 rb0 rb2 rp0 rp1 rp2 rp3 rp4 rp5 rp6 hkb e2 f0 f2 hne hs1 hw2;go_wp2;go_loopw[5](λi w3=>∃j:Nat,j<=m+1/\i=.i j/\(∀m',m'<j->¬(x m').ver=(x (m+1)).ver)/\∃q,w3=w2.drewN q)(λi _=>(m+1)-(intOf i).toNat);case atStart=>exact⟨0,At _,rfl,λj hj=>absurd hj (Aj _),0,rfl⟩
        case round=>
         obtain⟨j,hj,rfl,hvs,q,hq⟩:=hrel;have HQ:=Ah hq;have hcr:∀p,wr.cell? p=w2.cell? p:=λp=>(by rw[hq,World.cell?_drewN]);have o2':=(hcr _).trans o2;have g2':=(hcr _).trans g2;have g0':=(hcr _).trans g0;clear hcr;have hzr:w2.1.size=wr.1.size:=by rw[hq];rfl
         have HV:=Ah hvs;clear hvs;by_cases hjk:j<m+1
         .obtain⟨b',off',_,_,e,_,hbh',hcj,_⟩:=HC j Za;cases e;have hvj:wr.cell? ⟨b,off+j*7+2,none⟩=some (.i (x j).ver):=by rw[hq];exact(hcj.below hB2 Za).c2
          clear hcj hq o2 g2 g0;by_cases hve:(x j).ver=(x (m+1)).ver
          .have HE:=Ah (show Lk n x now=false by unfold Lk EX;rw[AX (p:=λi=>Bc (λk=>decide (¬(x k).ver=(x i).ver)) i) hkn (AX (p:=λk'=>decide (¬(x k').ver=(x (m+1)).ver)) hjk (by simp[hve]))];simp);have hvb:((x j).ver==(x (m+1)).ver)=true:=by simp[hve]
           exact eL
          .have hvb:((x j).ver==(x (m+1)).ver)=false:=by simp[hve]
           exact eH
         .have hjk':j=m+1:=Za;have vV:=Ah (show Below w.1.size w wr by rw[hq];exact hB2.trans ((BH _ _).mono hB2.size));have uS:Hid (w.1.size<wr.1.size):=(by rw[<-hzr];omega:w.1.size<wr.1.size);have wF:=Ah (show∀m',m'<m+1->¬(x m').ver=(x (m+1)).ver from λm' hm'=>HV.out m' Za);have sF:=Ah (And.intro g0' g2');clear hq o2 g2 g0 o2' HV;go_wp2;go_roundw;case rel=>exact⟨(m+1)+1,Za,by go_num,λm' hm'=>(by
           rcases Au m' (m+1)with h3|h3;.exact HA m' h3
           .have:m'=m+1:=Za;subst this;exact⟨HP,MU,yW,wF⟩),vV.out,uS.out,sF.out.1,sF.out.2⟩
          case measure=>simp[intOf];omega
  .have hkn':k=n:=Za;have HE:=Ah (show Lk n x now=true by unfold Lk K8 Ml EX;rw[decide_eq_true (show n<=100 by omega),AP.2 (λi hi=>(hall i Za).2.2.1),AP.2 (λi hi=>by rw[(hall i Za).1,(hall i Za).2.1];rfl),AP.2 (λi hi=>AP.2 (λk' hk'=>decide_eq_true ((hall i Za).2.2.2 k' hk')))];rfl);clear hall hc hf;go_wp2;go_ret;exact⟨Ay HE.symm,hb⟩
def Og (c:Ch):Bool:=!c.gone&&c.ob.born==c.ver
def Mh (c:Ch)(floor:Int):Bool:=Og c||decide (c.ob.born<=floor)
def LN (p c:Ch):Bool:=if p.gone||Og c then p.gone&&Og c else p.ob.born==c.ob.born
def K9 (c:Ch)(now:Int):Bool:=c.ob.ver==c.ver&&(Bg c.ob now&&(if c.gone then NA c.ob else CW c.ob))
theorem UC (c:Ch)(ad:OA)(cap:Nat)(w:World):Calls prog 64 #[.agg #[.i c.ver,.bool c.gone,.s c.ob.kind,.s c.ob.name,.i c.ob.ver,.i c.ob.born,.s c.ob.text,.bool c.ob.ending,.l ad c.ob.hn cap]] w λe w'=>e=.returned (.bool (Og c))/\Below w.1.size w w':=by obtain⟨ve,go,ob⟩:=c;dsimp only;cases go with
 |true=>go_enter func64,ntmps64;go_wp2;go_ret;exact⟨rfl,Am _ _⟩
 |false=>go_enter func64,ntmps64;go_wp2;go_ret;exact⟨Ay (by simp[Og]),Am _ _⟩
theorem LQ (c:Ch)(ad:OA)(cap:Nat)(w:World):Calls prog 78 #[.agg #[.i c.ver,.bool c.gone,.s c.ob.kind,.s c.ob.name,.i c.ob.ver,.i c.ob.born,.s c.ob.text,.bool c.ob.ending,.l ad c.ob.hn cap]] w λe w'=>e=.returned (.bool (Og c))/\Below w.1.size w w':=by obtain⟨ve,go,ob⟩:=c;dsimp only;cases go with
 |true=>go_enter func78,ntmps78;go_wp2;go_ret;exact⟨rfl,Am _ _⟩
 |false=>go_enter func78,ntmps78;go_wp2;go_ret;exact⟨Ay (by simp[Og]),Am _ _⟩
theorem VT{P:Prop}(h:P:=by go_ret;exact⟨Ay HE.symm,(Am _ _).trans (hb1.mono Zc)⟩):P:=h
theorem SG (c:Ch)(floor:Int)(ad:OA)(cap:Nat)(w:World):Calls prog 52 #[.agg #[.i c.ver,.bool c.gone,.s c.ob.kind,.s c.ob.name,.i c.ob.ver,.i c.ob.born,.s c.ob.text,.bool c.ob.ending,.l ad c.ob.hn cap],.i floor] w λe w'=>e=.returned (.bool (Mh c floor))/\Below w.1.size w w':=by cases hcr:Og c with
 |true=>have HE:=Ah (show Mh c floor=true by unfold Mh;rw[hcr];rfl);go_enter func52,ntmps52;go_wp2_with (go_at_call 78;refine(LQ c ad cap _).mono ?_;rintro e w1 ⟨rfl,hb1⟩);exact VT
 |false=>have HE:=Ah (show Mh c floor=decide (c.ob.born<=floor)by unfold Mh;rw[hcr];rfl);go_enter func52,ntmps52;go_wp2_with (go_at_call 78;refine(LQ c ad cap _).mono ?_;rintro e w1 ⟨rfl,hb1⟩;have k5:=Ar hb1 5;simp only[Af,Ae,Ad]at k5);exact VT
theorem Va (c:Ch)(now:Int)(ad:OA)(cap:Nat)(w:World)(lo hi:Nat)(hhi:hi<=w.1.size)(hf:Ef c.ob)(hc:AB w lo hi ad c.ob.hn c.ob.hs):Calls prog 49 #[.agg #[.i c.ver,.bool c.gone,.s c.ob.kind,.s c.ob.name,.i c.ob.ver,.i c.ob.born,.s c.ob.text,.bool c.ob.ending,.l ad c.ob.hn cap],.i now] w λe w'=>e=.returned (.bool (K9 c now))/\Below w.1.size w w':=by
 obtain⟨ve,go,ob⟩:=c;dsimp only at hf hc⊢;have hcA:=λo=>hc.alloc hhi o;have hfh:(ob.hn:Int)<=140737488355328:=by have:=hf.h;omega
 by_cases hv:ob.ver=ve;.subst hv;cases hp:Bg ob now with
  |false=>have HE:=Ah (show K9 ⟨ob.ver,go,ob⟩ now=false by unfold K9;simp[hp]);go_enter func49,ntmps49;go_wp2_with (go_at_call 47;refine(LS ob now ad cap _ lo hi Zd hf (hcA _)).mono ?_;rintro e w1 ⟨rfl,hb1⟩;rw[hp]);exact VT
  |true=>cases go with
   |true=>have HE:=Ah (show K9 ⟨ob.ver,true,ob⟩ now=NA ob by unfold K9;simp[hp]);go_enter func49,ntmps49;go_wp2_with (go_at_call 47;refine(LS ob now ad cap _ lo hi Zd hf (hcA _)).mono ?_;rintro e w1 ⟨rfl,hb1⟩;have k1:=Ar hb1 1;have k2:=Ar hb1 2;have k3:=Ar hb1 3;have k4:=Ar hb1 4;have k5:=Ar hb1 5;have k6:=Ar hb1 6;have k7:=Ar hb1 7;have k8:=Ar hb1 8;simp only[Af,Ae,Ad]at k1 k2 k3 k4 k5 k6 k7 k8;rw[hp]);go_wp2_with (go_at_call 77;refine(Sr ob ad cap _ hfh).mono ?_;rintro e w2 ⟨rfl,hb2⟩);go_ret;exact⟨Ay HE.symm,(Am _ _).trans ((hb1.mono Zc).trans (hb2.mono OC))⟩
   |false=>have HE:=Ah (show K9 ⟨ob.ver,false,ob⟩ now=CW ob by unfold K9;simp[hp]);go_enter func49,ntmps49;go_wp2_with (go_at_call 47;refine(LS ob now ad cap _ lo hi Zd hf (hcA _)).mono ?_;rintro e w1 ⟨rfl,hb1⟩;have k1:=Ar hb1 1;have k2:=Ar hb1 2;have k3:=Ar hb1 3;have k4:=Ar hb1 4;have k5:=Ar hb1 5;have k6:=Ar hb1 6;have k7:=Ar hb1 7;have k8:=Ar hb1 8;simp only[Af,Ae,Ad]at k1 k2 k3 k4 k5 k6 k7 k8;rw[hp]);go_wp2_with (go_at_call 48;refine(OL ob ad cap _ hfh).mono ?_;rintro e w2 ⟨rfl,hb2⟩);go_ret;exact⟨Ay HE.symm,(Am _ _).trans ((hb1.mono Zc).trans (hb2.mono OC))⟩
 .have HE:=Ah (show K9 ⟨ve,go,ob⟩ now=false by unfold K9;simp[hv]);have HV:=Ah hv;go_enter func49,ntmps49;go_wp2;go_ret;exact⟨Ay HE.symm,Am _ _⟩
end Go.Proofs.Ytnnjcenacidceaa
