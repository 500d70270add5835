import Derived.Test.YtdknjmgdgnmhjaaGreatPk05
import Derived.Test.YtdknjmgdgnmhjaaGreatPk02
import Derived.Maps.OwnSet
import Derived.Maps.OwnOps
import Derived.ProofKit
import Derived.Deep.AppendSrc
set_option maxRecDepth 100000
set_option maxHeartbeats 1000000
namespace Go.Proofs.YtdknjmgdgnmhjaaGreat
open Go.RowKit Go.Maps Go.Proofs.Tryz
variable {a b a' b':ByteArray}{w w1 w':World}{c d c0 c1:Array Value}{x:Nat→Ob}{k n i j base g:Nat}{D:DataW Unit}{P:Program}{t0 t1:TypeId}{s:Nat→ByteArray}
theorem WM:∀l:List UInt8,Op.bytesLess l l=false
 |[]=>by simp[Op.bytesLess]
 |c::r=>by simp[Op.bytesLess,WM r]
theorem IG(h:a.toList=b.toList):Gt a b=false:=by unfold Gt;rw[h];exact WM _
theorem Xq(x z:Ob):decide (0<=ET x z)=!DY x z:=by
 unfold ET DY;by_cases h:x.k.toList=z.k.toList;.rw[if_pos h,if_pos h,IG h];cases h1:Gt x.n z.n with
  |true=>simp
  |false=>by_cases h2:x.n.toList=z.n.toList<;>simp[h2]
 .rw[if_neg h,if_neg h];cases h1:Gt x.k z.k<;>simp
def GT(n:Nat)(x:Nat->Ob):Bool:=Bj (λi=>i==0||DY (x (i-1)) (x i)) n
def JG(n:Nat)(x:Nat->Ob)(now:Int):Bool:=Bj (λi=>Bv (x i) now&&Dp (x i)) n
def Es(n:Nat)(x:Nat->Ob):Bool:=Bj (λi=>Bj (λk=>decide (¬(x k).t=(x i).t)) i) n
def Hu(n:Nat)(x:Nat->Ob)(now:Int):Bool:=decide (n<=100)&&(GT n x&&(JG n x now&&Es n x))
theorem Vr(now floor:Int)(n:Nat)(x:Nat->Ob)(a1 a2 a3:OA)(c1 n2 c2 n3 c3:Nat)(w:World)(lo hi:Nat)(CD:hi<=w.1.size)(hl:(n:Int)<=1099511627776)(hf:∀i,i<n->Cu (x i))(hc:Bh w lo hi a1 n x):Calls prog 63 #[.agg #[.i now,.i floor,.l a1 n c1,.l a2 n2 c2,.l a3 n3 c3]] w λe w'=>e=.returned (.bool (Hu n x now))/\Below w.1.size w w':=by
 by_cases NA:(100:Int)<n
 .have HE:=Ab (show Hu n x now=false by unfold Hu;rw[decide_eq_false Za];rfl);go_enter func63,ntmps63;go_wp2;exact Kx
 go_enter func63,ntmps63;go_wp2;go_loopw[3](λi wr=>∃k:Nat,k<=n/\i=.i k/\(∀j,j<k->(Bv (x j) now=true/\Dp (x j)=true/\(j==0||DY (x (j-1)) (x j))=true/\∀m,m<j->¬(x m).t=(x j).t))/\Below w.1.size w wr/\w.1.size<wr.1.size/\wr.cell? ⟨w.1.size,0,none⟩=some (.i now)/\wr.cell? ⟨w.1.size,2,none⟩=some (.slice a1 n c1))(λi _=>n-(intOf i).toNat);case atStart=>exact⟨0,Ar _,rfl,λj hj=>absurd hj (Ae _),AC _ _,Ze,Ze,Ze⟩
 case round=>
  obtain⟨k,hk,rfl,Bg,hb,hz,FV,BT⟩:=hrel;by_cases B7:k<n
  .obtain⟨b,off,ah,ch,rfl,Gc,Ja,Dh,Il⟩:=hc k B7;have My:=hf k B7;obtain⟨d0,d1,d2,d3,d4,d5,d6⟩:=Dh.below hb Za;have HA:=Ab Bg;have HC:=Ab hc;have HF:=Ab hf;clear Bg hc hf Dh;go_wp2;generalize hW:wr.alloc (.cells (vO (x k) ah ch) 52)=W1;have hWs:W1.1.size=wr.1.size+1:=by rw[<-hW];simp
   have j9:Below w.1.size w W1:=by rw[<-hW];exact hb.alloc hb.size _
   have e0:W1.cell? ⟨wr.1.size,0,none⟩=some (.s (x k).k):=by rw[<-hW];simp
   have e1:W1.cell? ⟨wr.1.size,1,none⟩=some (.s (x k).n):=by rw[<-hW];simp
   have e2:W1.cell? ⟨wr.1.size,2,none⟩=some (.i (x k).t):=by rw[<-hW];simp
   have e3:W1.cell? ⟨wr.1.size,3,none⟩=some (.i (x k).b):=by rw[<-hW];simp
   have e4:W1.cell? ⟨wr.1.size,4,none⟩=some (.s (x k).m):=by rw[<-hW];simp
   have e5:W1.cell? ⟨wr.1.size,5,none⟩=some (.bool (x k).e):=by rw[<-hW];simp
   have e6:W1.cell? ⟨wr.1.size,6,none⟩=some (.slice ah (x k).hn ch):=by rw[<-hW];simp
   have f0:W1.cell? ⟨w.1.size,0,none⟩=some (.i now):=by rw[<-hW,At _ _ _ hz];exact FV
   have f2:W1.cell? ⟨w.1.size,2,none⟩=some (.slice (some ⟨b,off,none⟩) n c1):=by rw[<-hW,At _ _ _ hz];exact BT
   have ro0:=Aq e0 Zi;have ro1:=Aq e1 Zi;have ro2:=Aq e2 Zi;have ro3:=Aq e3 Zi;have ro4:=Aq e4 Zi;have ro5:=Aq e5 Zi;have ro6:=Aq e6 Zi;have rb0:=Aq f0 Zf;have rb2:=Aq f2 Zf;have Ks:=Il.below j9 CD;have Y4:hi<=W1.1.size:=Za;have CF:Nonempty (GW W1):=⟨⟨W1,Ap _ _⟩⟩;have Kr:=Ab j9;clear d0 d1 d2 d3 d4 d5 d6 Il hW hb FV BT j9 e0 e1 e3 e4 e5 e6;cases hp:Bv (x k) now with
   |false=>have HE:=Ab (show Hu n x now=false by unfold Hu JG;rw[Bd (p:=λi=>Bv (x i) now&&Dp (x i)) B7 (by rw[hp];rfl)];simp);exact Aft
   |true=>
    have HP:=Ab hp;by_cases Df:(x k).e=true/\(x k).hn=0
    .have HE:=Ab (show Hu n x now=false by unfold Hu JG;rw[Bd (p:=λi=>Bv (x i) now&&Dp (x i)) B7 (by simp[Dp,Df.1,Df.2])];simp);have hen:=Df.1;have fR:(((x k).hn:Int)==0)=true:=by simp[Df.2]
     clear Df;exact Aft
    .have Ig:=Ab (show Dp (x k)=true by unfold Dp;cases he:(x k).e with
      |false=>rfl
      |true=>simp;exact Nat.pos_of_ne_zero (λh=>Df ⟨he,h⟩));have Adr:((x k).e=false/\True)\/((x k).e=true/\(((x k).hn:Int)==0)=false):=by cases he:(x k).e with
      |false=>exact AA ⟨rfl,trivial⟩
      |true=>exact Az ⟨rfl,by simp;exact λh=>Df ⟨he,h⟩⟩
     clear Df;rcases Adr with⟨hen,fR⟩|⟨hen,fR⟩;all_goals
      rcases Bi k with ke|YT
      .have hg:decide ((0:Int)<(k:Int))=false:=decide_eq_false Za;have hg2:decide (0<k)=false:=decide_eq_false Za;have HK0:=Ab ke;clear ke;refine AP Zc Zc ?_;repeat(go_big_quiet_step(first|(go_at_call 86;go_must(exact B4 (Oc (x k) now _ Zcw ah ch _ lo hi Zbm My Zbo)))|(go_at_call 42;go_must(exact B4 (UG (x (k-1)) (x k) _ _ _ _ _ _ _)))))
       refine wpQuiet_nil ?_;rintro w2⟨u,hu⟩;have Dq:Below W1.1.size W1 w2:=hu▸u.prop;clear hu u;have Ds:Below w.1.size w w2:=Kr.trans (Dq.mono Za);have o2:=(Dq.cell (p:=⟨wr.1.size,2,none⟩) Zi).trans e2;have g0:=(Dq.cell (p:=⟨w.1.size,0,none⟩) Zf).trans f0;have g2:=(Dq.cell (p:=⟨w.1.size,2,none⟩) Zf).trans f2;have Fk:wr.1.size<w2.1.size:=by have:=Dq.size;omega
       have SD:=Ab Dq;clear ro0 ro1 ro2 ro3 ro4 ro5 ro6 rb0 rb2 e2 f0 f2 CF Ks Dq;go_wp2;go_loopw[5](λi w3=>∃j:Nat,j<=k/\i=.i j/\(∀m',m'<j->¬(x m').t=(x (k)).t)/\∃q,w3=w2.drewN q)(λi _=>(k)-(intOf i).toNat);case atStart=>exact⟨0,Ar _,rfl,λj hj=>absurd hj (Ae _),0,rfl⟩
       case round=>
        obtain⟨j,hj,rfl,vf,q,hq⟩:=hrel;have HQ:=Ab hq;have Kt:∀p,wr.cell? p=w2.cell? p:=λp=>(by rw[hq,World.cell?_drewN]);have o2':=(Kt _).trans o2;have YJ:=(Kt _).trans g2;have g0':=(Kt _).trans g0;clear Kt;have hzr:w2.1.size=wr.1.size:=by rw[hq];rfl
        have HV:=Ab vf;clear vf;by_cases bZ:j<k
        .obtain⟨b',off',_,_,e,_,SH,Fl,_⟩:=HC j Za;cases e;have hvj:wr.cell? ⟨b,off+j*7+2,none⟩=some (.i (x j).t):=by rw[hq];exact(Fl.below Ds Za).c2
         clear Fl hq o2 g2 g0;by_cases iy:(x j).t=(x (k)).t
         .have HE:=Ab (show Hu n x now=false by unfold Hu Es;rw[Bd (p:=λi=>Bj (λk=>decide (¬(x k).t=(x i).t)) i) B7 (Bd (p:=λk'=>decide (¬(x k').t=(x (k)).t)) bZ (by simp[iy]))];simp);have hvb:((x j).t==(x (k)).t)=true:=by simp[iy]
          exact xu
         .have hvb:((x j).t==(x (k)).t)=false:=by simp[iy]
          exact C_
        .have Ahv:j=k:=Za;have HBR:=Ab (show Below w.1.size w wr by rw[hq];exact Ds.trans ((BY _ _).mono Ds.size));have HRZ:Hid (w.1.size<wr.1.size):=(by rw[<-hzr];omega:w.1.size<wr.1.size);have HVK:=Ab (show∀m',m'<k->¬(x m').t=(x (k)).t from λm' hm'=>HV.out m' Za);have HGG:=Ab (And.intro g0' YJ);clear hq o2 g2 g0 o2' HV;go_wp2;go_roundw;case rel=>exact⟨(k)+1,Za,by go_num,λm' hm'=>(by
          rcases AD m' (k)with h3|h3;.exact HA m' h3
          .have:m'=k:=Za;subst this;exact⟨HP,Ig,by rw[HK0.out];rfl,HVK⟩),HBR.out,HRZ.out,HGG.out.1,HGG.out.2⟩
         case measure=>simp[intOf];omega
      .obtain⟨m,rfl⟩:∃m,k=m+1:=⟨k-1,Za⟩;obtain⟨b',off',ah',ch',e,_,SH,We,_⟩:=HC m Za;cases e;obtain⟨q0,q1,q2,q3,q4,q5,q6⟩:=We.below Kr Za;have rp0:=Aq q0 Zj;have rp1:=Aq q1 Zj;have rp2:=Aq q2 Zj;have rp3:=Aq q3 Zj;have rp4:=Aq q4 Zj;have rp5:=Aq q5 Zj;have rp6:=Aq q6 Zj;have rZ:=Xq (x m) (x (m+1));clear We q0 q1 q2 q3 q4 q5 q6;cases hbf:DY (x m) (x (m+1))with
       |false=>
        rw[hbf]at rZ;simp only[Bool.not_false]at rZ;have HE:=Ab (show Hu n x now=false by unfold Hu GT;rw[Bd (p:=λi=>i==0||DY (x (i-1)) (x i)) B7 (by simp[hbf])];simp);refine AP Zc Zc ?_;repeat(go_big_quiet_step(first|(go_at_call 86;go_must(exact B4 (Oc (x (m+1)) now _ Zcw ah ch _ lo hi Zbm My Zbo)))|(go_at_call 42;go_must(exact B4 (UG (x m) (x (m+1)) _ _ _ _ _ _ _)))))
        refine wpQuiet_nil ?_;rintro w2⟨u,hu⟩;have Dq:Below W1.1.size W1 w2:=hu▸u.prop;clear hu u;go_wp2;go_ret;exact⟨A7 HE.symm,Kr.trans (Dq.mono Za)⟩
       |true=>
        rw[hbf]at rZ;simp only[Bool.not_true]at rZ;have HBF:=Ab (show(m+1==0||DY (x (m+1-1)) (x (m+1)))=true by simp[hbf]);refine AP Zc Zc ?_;repeat(go_big_quiet_step(first|(go_at_call 86;go_must(exact B4 (Oc (x (m+1)) now _ Zcw ah ch _ lo hi Zbm My Zbo)))|(go_at_call 42;go_must(exact B4 (UG (x m) (x (m+1)) _ _ _ _ _ _ _)))))
        refine wpQuiet_nil ?_;rintro w2⟨u,hu⟩;have Dq:Below W1.1.size W1 w2:=hu▸u.prop;clear hu u;have Ds:Below w.1.size w w2:=Kr.trans (Dq.mono Za);have o2:=(Dq.cell (p:=⟨wr.1.size,2,none⟩) Zi).trans e2;have g0:=(Dq.cell (p:=⟨w.1.size,0,none⟩) Zf).trans f0;have g2:=(Dq.cell (p:=⟨w.1.size,2,none⟩) Zf).trans f2;have Fk:wr.1.size<w2.1.size:=by have:=Dq.size;omega
        have SD:=Ab Dq;clear ro0 ro1 ro2 ro3 ro4 ro5 ro6 rb0 rb2 rp0 rp1 rp2 rp3 rp4 rp5 rp6 rZ e2 f0 f2 CF Ks Dq;go_wp2;go_loopw[5](λi w3=>∃j:Nat,j<=m+1/\i=.i j/\(∀m',m'<j->¬(x m').t=(x (m+1)).t)/\∃q,w3=w2.drewN q)(λi _=>(m+1)-(intOf i).toNat);case atStart=>exact⟨0,Ar _,rfl,λj hj=>absurd hj (Ae _),0,rfl⟩
        case round=>
         obtain⟨j,hj,rfl,vf,q,hq⟩:=hrel;have HQ:=Ab hq;have Kt:∀p,wr.cell? p=w2.cell? p:=λp=>(by rw[hq,World.cell?_drewN]);have o2':=(Kt _).trans o2;have YJ:=(Kt _).trans g2;have g0':=(Kt _).trans g0;clear Kt;have hzr:w2.1.size=wr.1.size:=by rw[hq];rfl
         have HV:=Ab vf;clear vf;by_cases bZ:j<m+1
         .obtain⟨b',off',_,_,e,_,SH,Fl,_⟩:=HC j Za;cases e;have hvj:wr.cell? ⟨b,off+j*7+2,none⟩=some (.i (x j).t):=by rw[hq];exact(Fl.below Ds Za).c2
          clear Fl hq o2 g2 g0;by_cases iy:(x j).t=(x (m+1)).t
          .have HE:=Ab (show Hu n x now=false by unfold Hu Es;rw[Bd (p:=λi=>Bj (λk=>decide (¬(x k).t=(x i).t)) i) B7 (Bd (p:=λk'=>decide (¬(x k').t=(x (m+1)).t)) bZ (by simp[iy]))];simp);have hvb:((x j).t==(x (m+1)).t)=true:=by simp[iy]
           exact xu
          .have hvb:((x j).t==(x (m+1)).t)=false:=by simp[iy]
           exact C_
         .have Ahv:j=m+1:=Za;have HBR:=Ab (show Below w.1.size w wr by rw[hq];exact Ds.trans ((BY _ _).mono Ds.size));have HRZ:Hid (w.1.size<wr.1.size):=(by rw[<-hzr];omega:w.1.size<wr.1.size);have HVK:=Ab (show∀m',m'<m+1->¬(x m').t=(x (m+1)).t from λm' hm'=>HV.out m' Za);have HGG:=Ab (And.intro g0' YJ);clear hq o2 g2 g0 o2' HV;go_wp2;go_roundw;case rel=>exact⟨(m+1)+1,Za,by go_num,λm' hm'=>(by
           rcases AD m' (m+1)with h3|h3;.exact HA m' h3
           .have:m'=m+1:=Za;subst this;exact⟨HP,Ig,HBF,HVK⟩),HBR.out,HRZ.out,HGG.out.1,HGG.out.2⟩
          case measure=>simp[intOf];omega
  .have Ajd:k=n:=Za;have HE:=Ab (show Hu n x now=true by unfold Hu GT JG Es;rw[decide_eq_true (show n<=100 by omega),AS.2 (λi hi=>(Bg i Za).2.2.1),AS.2 (λi hi=>by rw[(Bg i Za).1,(Bg i Za).2.1];rfl),AS.2 (λi hi=>AS.2 (λk' hk'=>decide_eq_true ((Bg i Za).2.2.2 k' hk')))];rfl);clear Bg hc hf;exact PI
def Nf (c:Ch):Bool:=!c.g&&c.ob.b==c.t
def Ju (c:Ch)(floor:Int):Bool:=Nf c||decide (c.ob.b<=floor)
def IY (p c:Ch):Bool:=if p.g||Nf c then p.g&&Nf c else p.ob.b==c.ob.b
def GS (c:Ch)(now:Int):Bool:=c.ob.t==c.t&&(Bv c.ob now&&(if c.g then L2 c.ob else Dp c.ob))
theorem Yj (c:Ch)(ad:OA)(cap:Nat)(w:World):Calls prog 88 #[.agg #[.i c.t,.bool c.g,.s c.ob.k,.s c.ob.n,.i c.ob.t,.i c.ob.b,.s c.ob.m,.bool c.ob.e,.l ad c.ob.hn cap]] w λe w'=>e=.returned (.bool (Nf c))/\Below w.1.size w w':=by obtain⟨ve,go,ob⟩:=c;dsimp only;cases go with
 |true=>go_enter func88,ntmps88;exact dF
 |false=>go_enter func88,ntmps88;go_wp2;go_ret;exact⟨A7 (by simp[Nf]),AC _ _⟩
theorem IZ (c:Ch)(ad:OA)(cap:Nat)(w:World):Calls prog 110 #[.agg #[.i c.t,.bool c.g,.s c.ob.k,.s c.ob.n,.i c.ob.t,.i c.ob.b,.s c.ob.m,.bool c.ob.e,.l ad c.ob.hn cap]] w λe w'=>e=.returned (.bool (Nf c))/\Below w.1.size w w':=by obtain⟨ve,go,ob⟩:=c;dsimp only;cases go with
 |true=>go_enter func110,ntmps110;exact dF
 |false=>go_enter func110,ntmps110;go_wp2;go_ret;exact⟨A7 (by simp[Nf]),AC _ _⟩
theorem Ua (c:Ch)(floor:Int)(ad:OA)(cap:Nat)(w:World):Calls prog 96 #[.agg #[.i c.t,.bool c.g,.s c.ob.k,.s c.ob.n,.i c.ob.t,.i c.ob.b,.s c.ob.m,.bool c.ob.e,.l ad c.ob.hn cap],.i floor] w λe w'=>e=.returned (.bool (Ju c floor))/\Below w.1.size w w':=by cases Kt:Nf c with
 |true=>have HE:=Ab (show Ju c floor=true by unfold Ju;rw[Kt];rfl);go_enter func96,ntmps96;go_wp2_with (go_at_call 110;refine(IZ c ad cap _).mono ?_;rintro e w1 ⟨rfl,AU⟩);exact jL
 |false=>have HE:=Ab (show Ju c floor=decide (c.ob.b<=floor)by unfold Ju;rw[Kt];rfl);go_enter func96,ntmps96;go_wp2_with (go_at_call 110;refine(IZ c ad cap _).mono ?_;rintro e w1 ⟨rfl,AU⟩;have k5:=Ay AU 5;simp only[Ah,Ai,Af]at k5);exact jL
theorem WW (c:Ch)(now:Int)(ad:OA)(cap:Nat)(w:World)(lo hi:Nat)(CD:hi<=w.1.size)(hf:Cu c.ob)(hc:AK w lo hi ad c.ob.hn c.ob.hs):Calls prog 94 #[.agg #[.i c.t,.bool c.g,.s c.ob.k,.s c.ob.n,.i c.ob.t,.i c.ob.b,.s c.ob.m,.bool c.ob.e,.l ad c.ob.hn cap],.i now] w λe w'=>e=.returned (.bool (GS c now))/\Below w.1.size w w':=by
 obtain⟨ve,go,ob⟩:=c;dsimp only at hf hc⊢;have Tj:=λo=>hc.alloc CD o;have vi:(ob.hn:Int)<=140737488355328:=by have:=hf.h;omega
 by_cases hv:ob.t=ve;.subst hv;cases hp:Bv ob now with
  |false=>have HE:=Ab (show GS ⟨ob.t,go,ob⟩ now=false by unfold GS;simp[hp]);go_enter func94,ntmps94;go_wp2_with (go_at_call 92;refine(IW ob now ad cap _ lo hi Zd hf (Tj _)).mono ?_;rintro e w1 ⟨rfl,AU⟩;rw[hp]);exact jL
  |true=>cases go with
   |true=>have HE:=Ab (show GS ⟨ob.t,true,ob⟩ now=L2 ob by unfold GS;simp[hp]);go_enter func94,ntmps94;go_wp2_with (go_at_call 92;refine(IW ob now ad cap _ lo hi Zd hf (Tj _)).mono ?_;rintro e w1 ⟨rfl,AU⟩;have k1:=Ay AU 1;have k2:=Ay AU 2;have k3:=Ay AU 3;have k4:=Ay AU 4;have k5:=Ay AU 5;have k6:=Ay AU 6;have k7:=Ay AU 7;have k8:=Ay AU 8;simp only[Ah,Ai,Af]at k1 k2 k3 k4 k5 k6 k7 k8;rw[hp]);go_wp2_with (go_at_call 109;refine(SW ob ad cap _ vi).mono ?_;rintro e w2 ⟨rfl,BT⟩);go_ret;exact⟨A7 HE.symm,(AC _ _).trans ((AU.mono Ze).trans (BT.mono Zas))⟩
   |false=>have HE:=Ab (show GS ⟨ob.t,false,ob⟩ now=Dp ob by unfold GS;simp[hp]);go_enter func94,ntmps94;go_wp2_with (go_at_call 92;refine(IW ob now ad cap _ lo hi Zd hf (Tj _)).mono ?_;rintro e w1 ⟨rfl,AU⟩;have k1:=Ay AU 1;have k2:=Ay AU 2;have k3:=Ay AU 3;have k4:=Ay AU 4;have k5:=Ay AU 5;have k6:=Ay AU 6;have k7:=Ay AU 7;have k8:=Ay AU 8;simp only[Ah,Ai,Af]at k1 k2 k3 k4 k5 k6 k7 k8;rw[hp]);go_wp2_with (go_at_call 93;refine(NC ob ad cap _ vi).mono ?_;rintro e w2 ⟨rfl,BT⟩);go_ret;exact⟨A7 HE.symm,(AC _ _).trans ((AU.mono Ze).trans (BT.mono Zas))⟩
 .have HE:=Ab (show GS ⟨ve,go,ob⟩ now=false by unfold GS;simp[hv]);have HV:=Ab hv;go_enter func94,ntmps94;go_wp2;exact Kx
theorem E4{t u:TypeId}(hb:Below ((w.alloc (.cells c t)).alloc (.cells d u)).1.size ((w.alloc (.cells c t)).alloc (.cells d u)) w1)(i:Nat):w1.cell? ⟨w.1.size,i,none⟩=c[i]?:=(hb.cell (p:=⟨w.1.size,i,none⟩) Zd).trans (((AC (w.alloc (.cells c t)) (.cells d u)).cell (p:=⟨w.1.size,i,none⟩) Ze).trans (Al w c t i))
theorem RY (p c:Ch)(ad CY:OA)(cap cap2:Nat)(w:World):Calls prog 95 #[.agg (vH p ad cap),.agg (vH c CY cap2)] w λe w'=>e=.returned (.bool (IY p c))/\Below w.1.size w w':=by obtain⟨pv,pg,po⟩:=p;dsimp only[vH];cases pg with
 |true=>have HE:=Ab (show IY ⟨pv,true,po⟩ c=Nf c by unfold IY;simp);go_enter func95,ntmps95;go_wp2_with (go_at_call 110;refine(IZ c CY cap2 _).mono ?_;rintro e w1 ⟨rfl,AU⟩);exact xX
 |false=>cases Kt:Nf c with
  |true=>have HE:=Ab (show IY ⟨pv,false,po⟩ c=false by unfold IY;simp[Kt]);go_enter func95,ntmps95;go_wp2_with (go_at_call 110;refine(IZ c CY cap2 _).mono ?_;rintro e w1 ⟨rfl,AU⟩;rw[Kt];have k1:=E4 AU 1;simp only[Ah,Ai,Af]at k1);exact xX
  |false=>have HE:=Ab (show IY ⟨pv,false,po⟩ c=(po.b==c.ob.b)by unfold IY;simp[Kt]);go_enter func95,ntmps95;go_wp2_with (go_at_call 110;refine(IZ c CY cap2 _).mono ?_;rintro e w1 ⟨rfl,AU⟩;rw[Kt];have k1:=E4 AU 5;have k2:w1.cell? ⟨w.1.size+1,5,none⟩=some (.i c.ob.b):=(by simpa using Ay AU 5);simp only[Ah,Ai,Af]at k1);exact xX
def Ge (now floor:Int)(n:Nat)(h:Nat->Ch):Bool:=decide (n<=200)&&(decide ((n:Int)=now-floor)&&Bj (λi=>decide ((h i).t=floor+1+i)&&GS (h i) now) n)
theorem Od (now floor:Int)(n:Nat)(h:Nat->Ch)(a1 a2 a3:OA)(n1 c1 c2 n3 c3:Nat)(w:World)(lo hi:Nat)(CD:hi<=w.1.size)(hl:(n:Int)<=1099511627776)(jr:0<=floor)(LI:floor<=now)(hnm:now<=1000000)(hf:∀i,i<n->Cu (h i).ob)(hc:Dv w lo hi a2 n h):Calls prog 71 #[.agg #[.i now,.i floor,.l a1 n1 c1,.l a2 n c2,.l a3 n3 c3]] w λe w'=>e=.returned (.bool (Ge now floor n h))/\Below w.1.size w w':=by
 by_cases Ahs:(200:Int)<n;.have HE:=Ab (show Ge now floor n h=false by unfold Ge;rw[decide_eq_false Za];rfl);go_enter func71,ntmps71;go_wp2;exact Kx
 by_cases hnf:(n:Int)=now-floor;case neg=>have HE:=Ab (show Ge now floor n h=false by unfold Ge;rw[decide_eq_false hnf];simp);go_enter func71,ntmps71;go_wp2;exact Kx
 case pos=>
  have HNF:=Ab hnf;have Aed:now-floor=(n:Int):=Za;clear hnf;go_enter func71,ntmps71;go_wp2;go_loopw[23](λi wr=>∃k:Nat,k<=n/\i=.i k/\(∀j,j<k->(h j).t=floor+1+j/\GS (h j) now=true)/\Below w.1.size w wr/\w.1.size<wr.1.size/\wr.cell? ⟨w.1.size,0,none⟩=some (.i now)/\wr.cell? ⟨w.1.size,1,none⟩=some (.i floor))(λi _=>n-(intOf i).toNat);case atStart=>exact⟨0,Ar _,rfl,λj hj=>absurd hj (Ae _),AC _ _,Ze,Al _ _ _ _,Al _ _ _ _⟩
  case round=>
   obtain⟨k,hk,rfl,Bg,hb,hz,FV,AU⟩:=hrel;by_cases B7:k<n
   .obtain⟨b,off,ah,ch,rfl,Gc,Ja,Dh,Il⟩:=hc k B7;have My:=hf k B7;obtain⟨d0,d1,d2,d3,d4,d5,d6,d7,d8⟩:=Dh.below hb Za;have Ks:=Il.below hb CD;have HA:=Ab Bg;clear Bg hc hf Dh Il;by_cases hv:(h k).t=floor+1+k;case neg=>have HE:=Ab (show Ge now floor n h=false by unfold Ge;rw[Bd (p:=λi=>decide ((h i).t=floor+1+i)&&GS (h i) now) B7 (by rw[decide_eq_false hv];rfl)];simp);go_wp2;go_ret;exact⟨A7 HE.symm,hb.alloc hb.size _⟩
    case pos=>have HV:=Ab hv;clear hv;have hC:=WW (h k) now ah ch (wr.alloc (.cells #[.i (h k).t,.bool (h k).g,.s (h k).ob.k,.s (h k).ob.n,.i (h k).ob.t,.i (h k).ob.b,.s (h k).ob.m,.bool (h k).ob.e,.l ah (h k).ob.hn ch] 54)) lo hi dx My (Ks.alloc (by have:=hb.size;omega) _);cases hp:GS (h k) now with
     |false=>have HE:=Ab (show Ge now floor n h=false by unfold Ge;rw[Bd (p:=λi=>decide ((h i).t=floor+1+i)&&GS (h i) now) B7 (by rw[hp];simp)];simp);have hv:=HV.out;go_wp2_with fail;simp only[hv]at hC;refine hC.mono ?_;rintro e w2 ⟨rfl,BT⟩;rw[hp];clear hC;go_wp2;exact yY
     |true=>
      have HP:=Ab hp;have hv:=HV.out;go_wp2_with fail;simp only[hv]at hC;refine hC.mono ?_;rintro e w2 ⟨rfl,BT⟩;rw[hp];clear hC;have Ds:Below w.1.size w w2:=(hb.alloc hb.size _).trans (BT.mono dx);have Fk:w.1.size<w2.1.size:=by have:=BT.size;simp at this;omega
      have h00:w2.cell? ⟨w.1.size,0,none⟩=some (.i now):=(BT.cell (p:=⟨w.1.size,0,none⟩) Zd).trans ((At _ _ _ hz).trans FV);have h01:w2.cell? ⟨w.1.size,1,none⟩=some (.i floor):=(BT.cell (p:=⟨w.1.size,1,none⟩) Zd).trans ((At _ _ _ hz).trans AU);clear d0 d1 d2 d3 d4 d5 d6 d7 d8 Ks BT;go_wp2;go_roundw;case rel=>exact⟨k+1,Za,by go_num,λj hj=>(by
       rcases AD j k with h3|h3;.exact HA j h3
       .have:j=k:=Za;subst this;exact⟨HV,HP⟩),Ds,Fk,h00,h01⟩
      case measure=>simp[intOf];omega
   .have HE:=Ab (show Ge now floor n h=true by unfold Ge;rw[decide_eq_true (show n<=200 by omega),decide_eq_true HNF.out,AS.2 (λi hi=>by rw[decide_eq_true (Bg i Za).1,(Bg i Za).2];rfl)];rfl);clear Bg hc hf;exact PI
theorem Ko:Keyed prog 3:=int_keyed underlying3
theorem fc (w:World):(zeroValue 154).run prog w=.ok (.agg #[]) w:=Zc
theorem SV (n:Nat)(w:World):(Instr.makeMap 153 (some (.i (n:Int)))).run prog w=.ok (.map (some w.1.size)) (w.alloc (.map #[] 0)):=by simp[Instr.makeMap,run_underlying underlying153,asInt,asIntOf,Result.andThen]
def Tz (x:Nat->Ob)(k:Nat)(v:Int):Bool:=!Bj (λj=>decide (¬(x j).t=v)) k
def cT (x:Nat->Ob)(k:Nat)(D:DataW Unit):Prop:=∀v:Int,(Lit.int .i64 v).wf=true->Maps.has D (.i v)=Tz x k v
theorem Xj (x:Nat->Ob):cT x 0 (.map []):=λ_ _=>rfl
theorem jP (h:cT x k D)(hD:IsMap D)(hw:(Lit.int .i64 (x k).t).wf=true):cT x (k+1) (D.put (.i (x k).t) (.agg [])):=λv hv=>by
 by_cases e:(x k).t=v;.subst e;rw[has_put_same hD (Ko.key (keyOf_int_mk underlying3 hw))];simp[Tz,Bj]
 .rw[has_put_other (by intro h9;injection h9 with _ h9;exact e h9.symm),h v hv];simp[Tz,Bj,e]
theorem BR{k:TypeId}{R:Value->Option (DataW Unit×List MemPlace)}{b B:Nat}(h:w.ownsMap P k R b n D)(hb:Below B w w')(hB:b<B):w'.ownsMap P k R b n D:=by obtain⟨es,clock,h1,r⟩:=h;exact⟨es,clock,(hb.block b hB).trans h1,r⟩
theorem PG (now floor:Int)(n:Nat)(x:Nat->Ob)(a1 a2 a3:OA)(c1 n2 c2 n3 c3:Nat)(w:World)(lo hi:Nat)(CD:hi<=w.1.size)(hl:(n:Int)<=1099511627776)(hf:∀i,i<n->Cu (x i))(hc:Bh w lo hi a1 n x):Calls prog 70 #[.agg #[.i now,.i floor,.l a1 n c1,.l a2 n2 c2,.l a3 n3 c3]] w λe w'=>e=.returned (.bool (Es n x))/\Below w.1.size w w':=by
 have ja:=SV n;go_enter func70,ntmps70;go_wp2_with fail;go_loopw[15](λi wr=>∃(k:Nat)(D:DataW Unit),k<=n/\i=.i k/\Below w.1.size w wr/\wr.ownsMap prog 3 unitElem (w.1.size+1) k D/\cT x k D/\∀j,j<k->Bj (λk'=>decide (¬(x k').t=(x j).t)) j=true)(λi _=>n-(intOf i).toNat);case atStart=>have h9:=Nj (H:=Unit) (w.alloc (.cells #[.i now,.i floor,.l a1 n c1,.l a2 n2 c2,.l a3 n3 c3] 36)) prog 3 unitElem;rw[Av]at h9;exact⟨0,.map [],Ar _,rfl,(AC _ _).alloc Ze _,h9,Xj x,λj hj=>absurd hj (Ae _)⟩
 case round=>
  obtain⟨k,D,hk,rfl,hb,CG,Fe,Bg⟩:=hrel;clear ja;by_cases B7:k<n;.obtain⟨b,off,ah,ch,rfl,Gc,Ja,Dh,_⟩:=hc k B7;have hwf:=(hf k B7).v;obtain⟨d0,d1,d2,d3,d4,d5,d6⟩:=Dh.below hb Za;have Qr:=keyOf_int_mk underlying3 hwf;have SP:=Fe _ hwf;have HT:=Ab (jP Fe CG.isMap hwf);have LV:=Ab CG;have HA:=Ab Bg;clear hc hf Dh Fe CG Bg;cases hs:Tz x k (x k).t with
   |true=>have HE:=Ab (show Es n x=false from Bd (p:=λi=>Bj (λk=>decide (¬(x k).t=(x i).t)) i) B7 (by simpa[Tz]using hs));rw[hs]at SP;clear hs;go_wp2_with (at_lookup;go_must(refine wpList_lookup_own_unit _ rfl _ _ 153 rfl 3 154 Ko underlying153 (fc _) (w.1.size+1) k D rfl (LV.alloc _) _ _ rfl Qr ?_));go_ret;exact⟨A7 HE.symm,(hb.alloc hb.size _).alloc dx _⟩
   |false=>
    have HN:=Ab (show Bj (λk'=>decide (¬(x k').t=(x k).t)) k=true by simpa[Tz]using hs);rw[hs]at SP;clear hs;have JP:=hb.size;have hlt:=LV.lt;go_wp2_with (first|(at_lookup;go_must(refine wpList_lookup_own_unit _ rfl _ _ 153 rfl 3 154 Ko underlying153 (fc _) (w.1.size+1) k D rfl (LV.alloc _) _ _ rfl Qr ?_))|(at_mapUpdate;go_must(refine wpList_mapUpdate_own _ rfl _ _ _ 153 rfl 3 154 Ko underlying153 _ (w.1.size+1) k D rfl ((LV.alloc _).alloc _) Zl _ _ _ rfl rfl Qr _ [] unitElem_mk ?_;intro w3 IM Hl)));go_roundw;case rel=>exact⟨k+1,_,Za,by go_num,((hb.alloc hb.size _).alloc Zd _).grown Hl Zd (λj hj=>by cases hj;omega),IM,HT,λj hj=>(by
     rcases AD j k with h3|h3;.exact HA j h3
     .have:j=k:=Za;subst this;exact HN)⟩
    case measure=>simp[intOf];omega
  .have HE:=Ab (show Es n x=true from AS.2 (λi hi=>Bg i Za));clear hc hf CG Fe Bg;exact PI
theorem JD (x:Ob)(ad:OA)(cap:Nat)(w:World):Calls prog 40 #[.agg (vO x ad cap)] w λe w'=>e=.returned (.agg #[.s x.k,.s x.n])/\Below w.1.size w w':=by go_enter func40,ntmps40;go_wp2;refine bodyPost_ret (v:=.agg #[.s x.k,.s x.n]) (by simp[results,results40,go_sem]) rfl ⟨rfl,?_⟩;exact((AC _ _).alloc Ze _)
theorem PH:∀a:List UInt8,Op.bytesLess a a=false
 |[]=>rfl
 |x::a=>by simp[Op.bytesLess,PH a]
theorem wC (x z:Ob):DY x z=decide (qw (Iu x.k z.k) (Iu x.n z.n)<0):=by
 unfold DY qw Iu;by_cases h2:x.k.toList=z.k.toList
 .have h1:Gt x.k z.k=false:=by unfold Gt;rw[h2];exact PH _
  simp only[h1,h2,if_true,Fo,if_false];cases h3:Gt x.n z.n with
  |true=>simp
  |false=>by_cases h4:x.n.toList=z.n.toList<;>simp[h4]
 .cases h1:Gt x.k z.k with
  |true=>simp[h2]
  |false=>simp[h2]
theorem ZJ (x z:Ob)(ad CY:OA)(cap cap2:Nat)(w:World):Calls prog 106 #[.agg (vO x ad cap),.agg (vO z CY cap2)] w λe w'=>e=.returned (.i (qw (Iu x.k z.k) (Iu x.n z.n)))/\Below w.1.size w w':=by
 go_enter func106,ntmps106;go_wp2;have CF:Nonempty (GW ((w.alloc (.cells (vO x ad cap) 52)).alloc (.cells (vO z CY cap2) 52))):=⟨⟨_,Ap _ _⟩⟩;have x0:=Aq (W1:=(w.alloc (.cells (vO x ad cap) 52)).alloc (.cells (vO z CY cap2) 52)) (p:=⟨w.1.size,0,none⟩) (v:=.s x.k) Zah Zd;have z0:=Aq (W1:=(w.alloc (.cells (vO x ad cap) 52)).alloc (.cells (vO z CY cap2) 52)) (p:=⟨w.1.size+1,0,none⟩) (v:=.s z.k) Ze Ze;have x1:=Aq (W1:=(w.alloc (.cells (vO x ad cap) 52)).alloc (.cells (vO z CY cap2) 52)) (p:=⟨w.1.size,1,none⟩) (v:=.s x.n) Zah Zd;have z1:=Aq (W1:=(w.alloc (.cells (vO x ad cap) 52)).alloc (.cells (vO z CY cap2) 52)) (p:=⟨w.1.size+1,1,none⟩) (v:=.s z.n) Ze Ze;have x2:=Aq (W1:=(w.alloc (.cells (vO x ad cap) 52)).alloc (.cells (vO z CY cap2) 52)) (p:=⟨w.1.size,2,none⟩) (v:=.i x.t) Zah Zd;have z2:=Aq (W1:=(w.alloc (.cells (vO x ad cap) 52)).alloc (.cells (vO z CY cap2) 52)) (p:=⟨w.1.size+1,2,none⟩) (v:=.i z.t) Ze Ze;have x3:=Aq (W1:=(w.alloc (.cells (vO x ad cap) 52)).alloc (.cells (vO z CY cap2) 52)) (p:=⟨w.1.size,3,none⟩) (v:=.i x.b) Zah Zd;have z3:=Aq (W1:=(w.alloc (.cells (vO x ad cap) 52)).alloc (.cells (vO z CY cap2) 52)) (p:=⟨w.1.size+1,3,none⟩) (v:=.i z.b) Ze Ze;have x4:=Aq (W1:=(w.alloc (.cells (vO x ad cap) 52)).alloc (.cells (vO z CY cap2) 52)) (p:=⟨w.1.size,4,none⟩) (v:=.s x.m) Zah Zd;have z4:=Aq (W1:=(w.alloc (.cells (vO x ad cap) 52)).alloc (.cells (vO z CY cap2) 52)) (p:=⟨w.1.size+1,4,none⟩) (v:=.s z.m) Ze Ze;have x5:=Aq (W1:=(w.alloc (.cells (vO x ad cap) 52)).alloc (.cells (vO z CY cap2) 52)) (p:=⟨w.1.size,5,none⟩) (v:=.bool x.e) Zah Zd;have z5:=Aq (W1:=(w.alloc (.cells (vO x ad cap) 52)).alloc (.cells (vO z CY cap2) 52)) (p:=⟨w.1.size+1,5,none⟩) (v:=.bool z.e) Ze Ze;have x6:=Aq (W1:=(w.alloc (.cells (vO x ad cap) 52)).alloc (.cells (vO z CY cap2) 52)) (p:=⟨w.1.size,6,none⟩) (v:=.l ad x.hn cap) Zah Zd;have z6:=Aq (W1:=(w.alloc (.cells (vO x ad cap) 52)).alloc (.cells (vO z CY cap2) 52)) (p:=⟨w.1.size+1,6,none⟩) (v:=.l CY z.hn cap2) Ze Ze;refine AP Zc Zc ?_;repeat(go_big_quiet_step(first|(go_at_call 40;first|exact B4 (JD x ad cap _)|exact B4 (JD z CY cap2 _))|(go_at_call 112;go_must(exact B4 (ZU _ _ _ _ _)))))
 refine wpQuiet_nil ?_;rintro w2 ⟨u,hu⟩;have Dq:Below ((w.alloc (.cells (vO x ad cap) 52)).alloc (.cells (vO z CY cap2) 52)).1.size ((w.alloc (.cells (vO x ad cap) 52)).alloc (.cells (vO z CY cap2) 52)) w2:=hu▸u.prop;clear hu u CF x0 x1 x2 x3 x4 x5 x6 z0 z1 z2 z3 z4 z5 z6;go_wp2;go_ret;exact⟨rfl,((AC _ _).alloc Ze _).trans (Dq.mono Zd)⟩
theorem MY (x z:Ob)(ad CY:OA)(cap cap2:Nat)(w:World):Calls prog 91 #[.agg (vO x ad cap),.agg (vO z CY cap2)] w λe w'=>e=.returned (.bool (DY x z))/\Below w.1.size w w':=by have HE:=Ab (wC x z);have HB:=Ab (show∀o1 o2:Obj,Below w.1.size w ((w.alloc o1).alloc o2)from λo1 o2=>(AC _ _).alloc Ze _);go_enter func91,ntmps91;go_wp2_with (go_at_call 106;refine(ZJ x z _ _ _ _ _).mono ?_;rintro e w1 ⟨rfl,AU⟩);go_ret;exact⟨A7 HE.symm,(HB _ _).trans (AU.mono Zd)⟩
theorem QY (n:Nat)(x:Nat->Ob)(ad:OA)(cap:Nat)(w:World)(lo hi:Nat)(CD:hi<=w.1.size)(hl:(n:Int)<=140737488355328)(hc:Bh w lo hi ad n x):Calls prog 90 #[.l ad n cap,.func (.func 91) #[] #[]] w λe w'=>e=.returned (.bool (GT n x))/\Below w.1.size w w':=by
 go_enter func90,ntmps90;go_wp2;go_loopw[5](λi wr=>∃k:Nat,1<=k/\(k<=n\/k=1)/\i=.i k/\(∀j,j<k->(j==0||DY (x (j-1)) (x j))=true)/\Below w.1.size w wr)(λi _=>n-(intOf i).toNat);case atStart=>exact⟨1,AG _,Az rfl,rfl,λj hj=>(by have:j=0:=Za;subst this;rfl),Ap _ _⟩
 case round=>
  obtain⟨k,pH,hk,rfl,Bg,hb⟩:=hrel;by_cases B7:k<n
  .obtain⟨m,rfl⟩:∃m,k=m+1:=⟨k-1,Za⟩;obtain⟨b,off,ah,ch,rfl,Gc,Ja,Dh,_⟩:=hc (m+1) B7;obtain⟨b',off',ah',ch',e,_,SH,We,_⟩:=hc m Za;cases e;obtain⟨d0,d1,d2,d3,d4,d5,d6⟩:=Dh.below hb Za;obtain⟨q0,q1,q2,q3,q4,q5,q6⟩:=We.below hb Za;have Gr:b<wr.1.size:=by have:=hb.size;omega
   have rd0:=Aq d0 Gr;have rd1:=Aq d1 Gr;have rd2:=Aq d2 Gr;have rd3:=Aq d3 Gr;have rd4:=Aq d4 Gr;have rd5:=Aq d5 Gr;have rd6:=Aq d6 Gr;have rp0:=Aq q0 Gr;have rp1:=Aq q1 Gr;have rp2:=Aq q2 Gr;have rp3:=Aq q3 Gr;have rp4:=Aq q4 Gr;have rp5:=Aq q5 Gr;have rp6:=Aq q6 Gr;have CF:Nonempty (GW wr):=⟨⟨wr,Ap _ _⟩⟩;have HA:=Ab Bg;have tt:(m:Int)+1<=n:=Za;clear Bg hc hk Dh We d0 d1 d2 d3 d4 d5 d6 q0 q1 q2 q3 q4 q5 q6;cases hlt:DY (x m) (x (m+1))with
   |false=>
    have HE:=Ab (show GT n x=false from Bd (p:=λi=>i==0||DY (x (i-1)) (x i)) B7 (by simp[hlt]));go_wp2;refine AP Zc Zc ?_;repeat(go_big_quiet_step((go_at_call 91;go_must(exact B4 (MY (x m) (x (m+1)) _ _ _ _ _)))))
    exact vG
   |true=>
    have HN:=Ab (show(m+1==0||DY (x (m+1-1)) (x (m+1)))=true by simp[hlt]);go_wp2;refine AP Zc Zc ?_;repeat(go_big_quiet_step((go_at_call 91;go_must(exact B4 (MY (x m) (x (m+1)) _ _ _ _ _)))))
    exact Acz
  .have HE:=Ab (show GT n x=true from AS.2 (λi hi=>Bg i Za));clear Bg hc hk;exact PI
def EF (n:Nat)(x:Nat->Ob)(now:Int):Bool:=decide (n<=100)&&(GT n x&&JG n x now)
theorem PC (now floor:Int)(n:Nat)(x:Nat->Ob)(a1 a2 a3:OA)(c1 n2 c2 n3 c3:Nat)(w:World)(lo hi:Nat)(CD:hi<=w.1.size)(hl:(n:Int)<=1099511627776)(hf:∀i,i<n->Cu (x i))(hc:Bh w lo hi a1 n x):Calls prog 69 #[.agg #[.i now,.i floor,.l a1 n c1,.l a2 n2 c2,.l a3 n3 c3]] w λe w'=>e=.returned (.bool (EF n x now))/\Below w.1.size w w':=by
 have Tj:=λo=>hc.below (AC w o) CD;by_cases NA:(100:Int)<n;.have HE:=Ab (show EF n x now=false by unfold EF;rw[decide_eq_false Za];rfl);go_enter func69,ntmps69;go_wp2;exact Kx
 cases ha:GT n x with
 |false=>have HE:=Ab (show EF n x now=false by unfold EF;rw[ha];simp);go_enter func69,ntmps69;go_wp2_with (go_at_call 90;refine(QY n x a1 c1 _ lo hi Zd Za (Tj _)).mono ?_;rintro e w1 ⟨rfl,AU⟩);exact jL
 |true=>
  have HAS:=Ab ha;go_enter func69,ntmps69;go_wp2_with (go_at_call 90;refine(QY n x a1 c1 _ lo hi Zd Za (Tj _)).mono ?_;rintro e w1 ⟨rfl,AU⟩;have k0:=Ay AU 0;have k2:=Ay AU 2;simp only[Ah,Ai,Af]at k0 k2;have Fp:Below w.1.size w w1:=(AC _ _).trans (AU.mono Ze);have C7:w.1.size<w1.1.size:=Zas;clear AU);go_loopw[18](λi wr=>∃k:Nat,k<=n/\i=.i k/\(∀j,j<k->Bv (x j) now=true/\Dp (x j)=true)/\Below w.1.size w wr/\w.1.size<wr.1.size/\wr.cell? ⟨w.1.size,0,none⟩=some (.i now))(λi _=>n-(intOf i).toNat);case atStart=>exact⟨0,Ar _,rfl,λj hj=>absurd hj (Ae _),Fp,C7,k0⟩
  case round=>
   obtain⟨k,hk,rfl,Bg,hb,hz,FV⟩:=hrel;by_cases B7:k<n
   .obtain⟨b,off,ah,ch,rfl,Gc,Ja,Dh,Il⟩:=hc k B7;have My:=hf k B7;have vi:((x k).hn:Int)<=140737488355328:=by have:=My.h;omega
    obtain⟨d0,d1,d2,d3,d4,d5,d6⟩:=Dh.below hb Za;have Ks:=Il.below hb CD;have HA:=Ab Bg;clear Bg hc hf Dh Il Tj k0 k2 Fp C7 ha;cases hp:Bv (x k) now with
    |false=>have HE:=Ab (show EF n x now=false by unfold EF JG;rw[Bd (p:=λi=>Bv (x i) now&&Dp (x i)) B7 (by rw[hp];rfl)];simp);go_wp2_with (go_at_call 92;refine(IW (x k) now ah ch _ lo hi dx My (Ks.alloc (by have:=hb.size;omega) _)).mono ?_;rintro e w2 ⟨rfl,BT⟩);exact yY
    |true=>
     have HP:=Ab hp;go_wp2_with (go_at_call 92;refine(IW (x k) now ah ch _ lo hi dx My (Ks.alloc (by have:=hb.size;omega) _)).mono ?_;rintro e w2 ⟨rfl,BT⟩;have t0:=Ay BT 0;have t1:=Ay BT 1;have t2:=Ay BT 2;have t3:=Ay BT 3;have t4:=Ay BT 4;have t5:=Ay BT 5;have t6:=Ay BT 6;simp only[Ah,Ai,Af]at t0 t1 t2 t3 t4 t5 t6);refine(NC (x k) ah ch _ vi).mono ?_;rintro e w3 ⟨rfl,C6⟩;have Ds:Below w.1.size w w2:=(hb.alloc hb.size _).trans (BT.mono dx);have ig:Below w.1.size w w3:=Ds.trans (C6.mono Ds.size);have Fk:wr.1.size<w2.1.size:=by have:=BT.size;simp at this;omega
     have h00:w3.cell? ⟨w.1.size,0,none⟩=some (.i now):=(C6.cell (p:=⟨w.1.size,0,none⟩) Zf).trans ((BT.cell (p:=⟨w.1.size,0,none⟩) Zd).trans ((At _ _ _ hz).trans FV));have YG:w.1.size<w3.1.size:=by have:=C6.size;omega
     clear t0 t1 t2 t3 t4 t5 t6 d0 d1 d2 d3 d4 d5 d6 Ks BT C6;cases Df:Dp (x k)with
     |false=>have HE:=Ab (show EF n x now=false by unfold EF JG;rw[Bd (p:=λi=>Bv (x i) now&&Dp (x i)) B7 (by rw[hp,Df];rfl)];simp);go_wp2;go_ret;exact⟨A7 HE.symm,ig⟩
     |true=>
      have HS:=Ab Df;go_wp2;go_roundw;case rel=>exact⟨k+1,Za,by go_num,λj hj=>(by
       rcases AD j k with h3|h3;.exact HA j h3
       .have:j=k:=Za;subst this;exact⟨HP,HS⟩),ig,YG,h00⟩
      case measure=>simp[intOf];omega
   .have HE:=Ab (show EF n x now=true by unfold EF JG;rw[HAS.out,decide_eq_true (show n<=100 by omega),AS.2 (λi hi=>by rw[(Bg i Za).1,(Bg i Za).2];rfl)];rfl);clear Bg hc hf Tj;exact PI
theorem En (x:Ob)(ad:OA)(cap:Nat)(w:World):Calls prog 40 #[.agg (vO x ad cap)] w λe w'=>e=.returned (.agg #[.s x.k,.s x.n])/\Below w.1.size w w':=by go_enter func40,ntmps40;go_wp2;refine bodyPost_ret (v:=.agg #[.s x.k,.s x.n]) (by simp[results,results40,go_sem]) rfl ⟨rfl,?_⟩;exact((Ak _ _).alloc Ze _)
theorem Ok:laidOutB prog=true:=Zc
theorem Sm:89<prog.types.size:=of_decide_eq_true Zc
theorem CE:Keyed prog 89:=Keyed.of_law (deep_law_laid Ok (m:=2) Za Sm Zc Zc)
theorem bE:prog.keyType 89=true:=Zc
theorem Oj:prog.cellsOf 89=2:=Zc
theorem Yu:prog.cellsOf 9=1:=Zc
def kl (a b:ByteArray):Lit:=.s (keyBytes [.s a.data.toList,.s b.data.toList])
theorem WO (a b:ByteArray)(ha:a.size<=maxLen)(hb:b.size<=maxLen):keyOf prog 89 (.agg #[.s a,.s b])=some (kl a b):=by obtain⟨d,hd⟩:∃d,prog.types.size+1=d+2:=⟨prog.types.size-1,by have:=Sm;omega⟩;unfold keyOf;rw[underlying89];simp only[bE,Value.formed,underlying89,Oj,hd];simp[Program.keyLits,underlying89,underlying9,Oj,Yu,Value.cells,ha,hb,kl]
theorem xo (ha:a.size<=maxLen)(hb:b.size<=maxLen)(ha':a'.size<=maxLen)(hb':b'.size<=maxLen)(h:¬(a=a'/\b=b')):kl a b≠kl a' b':=by intro e;have h1:=WO a b ha hb;have h2:=WO a' b' ha' hb';rw[<-e]at h2;have:=CE.inj h1 h2;simp at this;exact h this
theorem LG (w:World):(zeroValue 3).run prog w=.ok (.i 0) w:=Zc
def LP (x:Nat->Ob)(a b:ByteArray):Nat->Option Nat
 |0=>none
 |n+1=>match LP x a b n with
  |some i=>some i
  |none=>if(x n).k=a/\(x n).n=b then some n else none
theorem MZ{x:Nat->Ob}{a b:ByteArray}:∀{n i:Nat},LP x a b n=some i->i<n/\(x i).k=a/\(x i).n=b
 |0,_,h=>by cases h
 |n+1,i,h=>by
  unfold LP at h;split at h;.rename_i j hj;cases h;have:=MZ hj;exact⟨Za,this.2⟩
  .split at h;.rename_i hh;cases h;exact⟨Za,hh⟩
   .cases h
theorem JM (h:LP x a b n=some i):LP x a b (n+1)=some i:=by unfold LP;rw[h]
theorem UN (h:LP x a b n=none)(h2:(x n).k=a/\(x n).n=b):LP x a b (n+1)=some n:=by unfold LP;rw[h];exact if_pos h2
theorem Sj (h:LP x a b n=none)(h2:¬((x n).k=a/\(x n).n=b)):LP x a b (n+1)=none:=by unfold LP;rw[h];exact if_neg h2
def ZD (x:Nat->Ob)(n:Nat)(D:DataW Unit):Prop:=∀a b:ByteArray,a.size<=maxLen->b.size<=maxLen->(∀i,LP x a b n=some i->Maps.has D (kl a b)=true/\D.atKey (kl a b) (.lit (.i 0))=.lit (.i i))/\(LP x a b n=none->Maps.has D (kl a b)=false)
theorem ZE (x:Nat->Ob):ZD x 0 (.map []):=λa b _ _=>⟨λi h=>Ns,λ_=>rfl⟩
theorem iN (h:ZD x n D)(hi:LP x (x n).k (x n).n n=some i):ZD x (n+1) D:=λa b ha hb=>by
 obtain⟨h1,h2⟩:=h a b ha hb;by_cases hh:(x n).k=a/\(x n).n=b
 .obtain⟨rfl,rfl⟩:=hh;refine⟨λj hj=>?_,λhj=>?_⟩;.rw[JM hi]at hj;cases hj;exact h1 _ hi
  .rw[JM hi]at hj;cases hj
 .cases hc:LP x a b n with
  |none=>exact⟨λj hj=>(by rw[Sj hc hh]at hj;cases hj),λ_=>h2 hc⟩
  |some m=>exact⟨λj hj=>(by rw[JM hc]at hj;cases hj;exact h1 _ hc),λhj=>(by rw[JM hc]at hj;cases hj)⟩
theorem ao (a b:ByteArray)(ha:a.size<=maxLen)(hb:b.size<=maxLen):WideAt.IsKeyLit (kl a b):=CE.key (WO a b ha hb)
theorem xU (h:ZD x n D)(hD:IsMap D)(hi:LP x (x n).k (x n).n n=none)(hk:(x n).k.size<=maxLen)(hn:(x n).n.size<=maxLen):ZD x (n+1) (D.put (kl (x n).k (x n).n) (.lit (.i n))):=λa b ha hb=>by
 obtain⟨h1,h2⟩:=h a b ha hb;by_cases hh:(x n).k=a/\(x n).n=b
 .obtain⟨rfl,rfl⟩:=hh;refine⟨λj hj=>?_,λhj=>?_⟩;.rw[UN hi ⟨rfl,rfl⟩]at hj;exact N_
  .rw[UN hi ⟨rfl,rfl⟩]at hj;cases hj
 .have CF:kl a b≠kl (x n).k (x n).n:=xo ha hb hk hn (λe=>hh ⟨e.1.symm,e.2.symm⟩);rw[has_put_other CF,atKey_put_other CF];cases hc:LP x a b n with
  |none=>exact⟨λj hj=>(by rw[Sj hc hh]at hj;cases hj),λ_=>h2 hc⟩
  |some m=>exact⟨λj hj=>(by rw[JM hc]at hj;cases hj;exact h1 _ hc),λhj=>(by rw[JM hc]at hj;cases hj)⟩
theorem Iq (n:Nat)(w:World):(Instr.makeMap 157 (some (.i (n:Int)))).run prog w=.ok (.map (some w.1.size)) (w.alloc (.map #[] 0)):=by simp[Instr.makeMap,run_underlying underlying157,asInt,asIntOf,Result.andThen]
theorem Z6 (n:Nat)(x:Nat->Ob)(ad:OA)(cap:Nat)(w:World)(lo hi:Nat)(CD:hi<=w.1.size)(hl:(n:Int)<=1099511627776)(hf:∀i,i<n->Cu (x i))(hc:Bh w lo hi ad n x):Calls prog 99 #[.l ad n cap] w λe w'=>∃D:DataW Unit,e=.returned (.map (some w.1.size))/\w'.ownsMap prog 89 (plainElem prog 3) w.1.size n D/\ZD x n D/\Below w.1.size w w':=by
 have ja:=Iq n w;go_enter func99,ntmps99;go_wp2_with fail;go_loopw[13](λi wr=>∃(k:Nat)(D:DataW Unit),k<=n/\i=.i k/\Below w.1.size w wr/\wr.ownsMap prog 89 (plainElem prog 3) w.1.size k D/\ZD x k D)(λi _=>n-(intOf i).toNat);case atStart=>exact⟨0,.map [],Ar _,rfl,Ak _ _,Nj _ _ _ _,ZE x⟩
 case round=>
  obtain⟨k,D,hk,rfl,hb,CG,Fe⟩:=hrel;clear ja;by_cases B7:k<n
  .obtain⟨b,off,ah,ch,rfl,Gc,Ja,Dh,Il⟩:=hc k B7;obtain⟨fk,fn,_,_,_⟩:=hf k B7;have OC:(x k).k.size<=maxLen:=by unfold maxLen;omega
   have SM:(x k).n.size<=maxLen:=by unfold maxLen;omega
   obtain⟨d0,d1,d2,d3,d4,d5,d6⟩:=Dh.below hb Za;clear hc hf Dh Il;have Qr:=WO (x k).k (x k).n OC SM;cases I4:LP x (x k).k (x k).n k with
   |none=>
    have SP:=(Fe _ _ OC SM).2 I4;have HT:=Ab (xU Fe CG.isMap I4 OC SM);have LV:=Ab CG;clear I4 Fe CG;go_wp2_with fail;refine(En (x k) ah ch _).mono ?_;rintro e w1 ⟨rfl,AU⟩;have CW:=Ab (BR (LV.alloc _) AU Zbu);have Fp:=(hb.alloc hb.size (.cells (vO (x k) ah ch) 52)).trans (AU.mono dx);have p0:=Ay AU 0;have p1:=Ay AU 1;have p2:=Ay AU 2;have p3:=Ay AU 3;have p4:=Ay AU 4;have p5:=Ay AU 5;have p6:=Ay AU 6;simp only[Ah,Ai,Af]at p0 p1 p2 p3 p4 p5 p6;clear AU d0 d1 d2 d3 d4 d5 d6 LV;go_wp2_with (at_lookup;go_must(refine wpList_lookup_own_ok_int _ rfl _ _ 157 rfl 89 3 .i64 CE underlying157 underlying3 (LG _) w.1.size k D rfl CW _ _ rfl Qr ?_;intro c DR Sn));refine(En (x k) ah ch _).mono ?_;rintro e w2 ⟨rfl,BT⟩;have BH:=Ab (BR CW BT CW.lt);have Ds:=Fp.trans (BT.mono Fp.size);clear BT p0 p1 p2 p3 p4 p5 p6 DR Sn CW;go_wp2_with (at_mapUpdate;go_must(refine wpList_mapUpdate_own _ rfl _ _ _ 157 rfl 89 3 CE underlying157 _ w.1.size k D rfl BH Zl _ _ _ rfl rfl Qr _ [] (plainElem_int underlying3 (Qn Za)) ?_;intro w3 IM Hl));go_roundw;case rel=>exact⟨k+1,_,Za,by go_num,Ds.grown Hl Ds.size (λj hj=>by cases hj;exact AG _),IM,HT⟩
    case measure=>simp[intOf];omega
   |some i=>
    have SP:=((Fe _ _ OC SM).1 i I4).1;have HT:=Ab (iN Fe I4);have LV:=Ab CG;clear I4 Fe CG;go_wp2_with fail;refine(En (x k) ah ch _).mono ?_;rintro e w1 ⟨rfl,AU⟩;have CW:=Ab (BR (LV.alloc _) AU Zbu);have Fp:=(hb.alloc hb.size (.cells (vO (x k) ah ch) 52)).trans (AU.mono dx);have p0:=Ay AU 0;have p1:=Ay AU 1;have p2:=Ay AU 2;have p3:=Ay AU 3;have p4:=Ay AU 4;have p5:=Ay AU 5;have p6:=Ay AU 6;simp only[Ah,Ai,Af]at p0 p1 p2 p3 p4 p5 p6;clear AU d0 d1 d2 d3 d4 d5 d6 LV;clear p0 p1 p2 p3 p4 p5 p6;go_wp2_with (at_lookup;go_must(refine wpList_lookup_own_ok_int _ rfl _ _ 157 rfl 89 3 .i64 CE underlying157 underlying3 (LG _) w.1.size k D rfl CW _ _ rfl Qr ?_;intro c DR Sn));go_roundw;case rel=>exact⟨k+1,D,Za,by go_num,Fp,CW.mono Za,HT⟩
    case measure=>simp[intOf];omega
  .exact F_
theorem Sk (hb:Below ((w.alloc (.cells c0 t0)).alloc (.cells c1 t1)).1.size ((w.alloc (.cells c0 t0)).alloc (.cells c1 t1)) w1):(∀i,w1.cell? ⟨w.1.size,i,none⟩=c0[i]?)/\(∀i,w1.cell? ⟨w.1.size+1,i,none⟩=c1[i]?)/\(∀i,w1.frozen? ⟨w.1.size,i,none⟩=false)/\(∀i,w1.frozen? ⟨w.1.size+1,i,none⟩=false):=by
 refine⟨λi=>?_,λi=>?_,λi=>?_,λi=>?_⟩;.rw[hb.cell (p:=⟨w.1.size,i,none⟩) Zd];rw[At _ _ _ Ze,Da _ _ _ _ rfl]
 .rw[hb.cell (p:=⟨w.1.size+1,i,none⟩) Ze];rw[Da _ _ _ _ Ze]
 .rw[hb.frozen (p:=⟨w.1.size,i,none⟩) Zd];rw[O7 _ _ _ Ze,De _ _ _ _ rfl]
 .rw[hb.frozen (p:=⟨w.1.size+1,i,none⟩) Ze];rw[De _ _ _ _ Ze]
theorem JB{ops:Array Oper}{rest:List Oper}{o:Oper}{a:Act}{Q:Exit->Act->World->Prop}(hgd:o.guard=none)(s x:Operand)(t:TypeId)(ho:o.op=.call {callee:=.builtin .append,args:=#[s,x],argTypes:=#[t,t]})(e:TypeId)(i:TypeInfo)(ht:P.underlying t=some (.slice e))(hi:P.info? e=some i)(b off sLen sCap:Nat)(Om:sLen<=sCap)(hs:a.eval s=.l (some ⟨b,off,none⟩) sLen sCap)(ad:OA)(c:Nat)(hx:a.eval x=.l ad 0 c)(h:wpList P ops Q rest (a.put o.dst (.l (some ⟨b,off,none⟩) sLen sCap)) w):wpList P ops Q (o::rest) a w:=by
 refine wpList_plain hgd λK hK=>?_;have Mu:Src P i.size t (.l ad 0 c) 0 [] w:=by cases ad with
  |none=>exact Src.ofNil w ht c
  |some a0=>exact Src.ofSlice w ht a0 0 c [] Ze (λj u hj=>by simp at hj) (λu hu=>by cases hu)
 have CZ:=run_append_room_src (P:=P) w t t o.type e i ht hi b off sLen sCap _ 0 [] Mu Za (λj hj=>by simp at hj) (λj hj=>by simp at hj);simp only[BU,World.setCells]at CZ;exact yu
def CK (n:Nat)(s:Nat->ByteArray):List Value:=(List.range n).map λi=>.s (s i)
theorem UV{u:Value}(h:(CK n s)[j]?=some u):j<n/\u=.s (s j):=by
 simp only[CK,List.getElem?_map]at h;rcases AD j n with h1|h1;.rw[CR Zcj]at h;simp at h;exact⟨h1,h.symm⟩
 .rw[List.getElem?_eq_none Zcj]at h;cases h
theorem Yc (h:j<n):(CK n s)[j]?=some (.s (s j)):=by simp[CK,h]
theorem Vm (n:Nat)(s:Nat->ByteArray):(CK n s).length=n:=by simp[CK]
theorem UF (n:Nat)(s:Nat->ByteArray):∀u∈CK n s,u.oneCell'=true:=by intro u hu;obtain⟨i,_,rfl⟩:=Ec.1 hu;rfl
theorem L3{v:Value}(h:w.ownsRow base 9 1 v n (CK n s))(hn:0<n):∃g cap,v=.l (some ⟨g,0,none⟩) n cap/\n<=cap/\BA w base w.1.size (some ⟨g,0,none⟩) n s:=by
 rcases h.2 with⟨_,h0⟩|⟨g,cap,cur,rfl,hg,hh,hr⟩;.omega
 .refine⟨g,cap,rfl,hr.1,λi hi=>⟨g,0,rfl,hg,(AM.1 hh).1,?_,?_⟩⟩;.have:=World.ownsRow.cellAt (g:=g) (cap:=cap) h i Za;simpa[Yc hi]using this
  .simpa using World.ownsRow.frozenAt (g:=g) (cap:=cap) h i
theorem Xi{o2:Obj}(hg:(((w.alloc (.cells c0 t0)).alloc (.cells c1 t1)).alloc o2).grownBy w1 (some (w.1.size+1+1))):(∀i,w1.cell? ⟨w.1.size,i,none⟩=c0[i]?)/\(∀i,w1.cell? ⟨w.1.size+1,i,none⟩=c1[i]?)/\(∀i,w1.frozen? ⟨w.1.size,i,none⟩=false)/\(∀i,w1.frozen? ⟨w.1.size+1,i,none⟩=false)/\Below w.1.size w w1/\w.1.size+2<w1.1.size:=by
 have Ds:Below (w.1.size+1+1) ((w.alloc (.cells c0 t0)).alloc (.cells c1 t1)) w1:=((Ap _ _).alloc Ze o2).grown hg Ze (λk hk=>by cases hk;exact AG _);have Ahu:Below ((w.alloc (.cells c0 t0)).alloc (.cells c1 t1)).1.size ((w.alloc (.cells c0 t0)).alloc (.cells c1 t1)) w1:=by simpa using Ds
 obtain⟨A0,A1,F0,F1⟩:=Sk Ahu;refine⟨A0,A1,F0,F1,((Ak _ _).alloc Ze _).trans (Ds.mono Za),?_⟩;have:=hg.size;simp at this;omega
structure ls (w:World)(base:Nat)(ad:OA)(n cap:Nat):Prop where
 le:n<=cap
 z:n=0->cap=0
 rm:0<cap->∃g,ad=some ⟨g,0,none⟩/\base<=g/\IR w g cap
theorem IR.frO{m lo hi:Nat}(h:IR w g m)(hf:Fr lo hi w w')(ho:g<lo\/hi<=g):IR w' g m:=⟨λj hj=>by obtain⟨u,hu⟩:=h.has j hj;exact⟨u,(hf.cell (p:=⟨g,j,none⟩) h.lt ho).trans hu⟩,λj=>(hf.frozen (p:=⟨g,j,none⟩) h.lt ho).trans (h.free j),Aa h.lt hf.size⟩
theorem Rm{e z l cap:Nat}{xs:List Value}(h:w.ownsRow base e z (.l (some ⟨g,0,none⟩) l cap) n xs):IR w g (cap*z)/\base<=g:=by
 rcases h.2 with⟨h1,_⟩|⟨g',cap',cur,h1,h2,h3,h4,h5,h6,h7⟩;.cases h1
 .injection h1 with e1 e2 e3;injection e1 with e1;injection e1 with e1;subst e1;subst e3;refine⟨⟨λj hj=>⟨cur[j]'Za,?_⟩,λj=>?_,?_⟩,h2⟩;.have hj':j<cur.size:=Za;simp[World.cell?,h3,hj']
  .simp[World.frozen?,h3]
  .exact(AM.1 h3).1
theorem Iy (x:Ob)(ad:OA)(cap:Nat)(w:World)(lo hi:Nat)(CD:hi<=w.1.size)(hl:(x.hn:Int)<=8796093022208)(hc:AK w lo hi ad x.hn x.hs):Calls prog 22 #[.agg (vO x ad cap)] w λe w'=>∃ad' cap',e=.returned (.agg (vO x ad' cap'))/\ls w' w.1.size ad' x.hn cap'/\BA w' w.1.size w'.1.size ad' x.hn x.hs/\Below w.1.size w w':=by
 obtain⟨i0,Fq,GH,C7,Fk⟩:=info_parts Gh;rcases Bi x.hn with h0|YT
 .obtain⟨ki,na,ve,bo,te,en,hn,hs⟩:=x;dsimp only at h0 hc hl⊢;subst h0;go_enter func22,ntmps22;go_wp2_with (at_builtin;refine JB rfl _ _ 50 rfl 9 i0 underlying50 Fq _ _ _ _ A9 rfl _ _ rfl ?_);refine bodyPost_ret (v:=.agg #[.s ki,.s na,.i ve,.i bo,.s te,.bool en,.l (some ⟨w.1.size+1+1,0,none⟩) 0 0]) (by simp[results,results22,go_sem]) rfl ⟨_,0,rfl,⟨AG _,λ_=>rfl,λh=>absurd h (Bc _)⟩,?_,?_⟩;.intro i hi';exact absurd hi' (Ae _)
  .exact(((Ap _ _).alloc A9 _).alloc Ze _).alloc Zd _
 .obtain⟨b,off,rfl,Gc,Ja,_⟩:=hc 0 YT;have Th:∀(o1 o2:Obj),(((w.alloc o1).alloc o2).alloc (.cells #[] 9)).ownsRow (w.1.size+1+1) 9 1 (.l (some ⟨w.1.size+1+1,0,none⟩) 0 0) 0 []:=λo1 o2=>by have:=Dy (base:=w.1.size+1+1) (e:=9) (size:=1) ((w.alloc o1).alloc o2) #[] 0 Ze S4 rfl;simpa using this
  have FV:∀(o1 o2 o3:Obj),Below w.1.size w (((w.alloc o1).alloc o2).alloc o3):=λo1 o2 o3=>(((Ap _ _).alloc A9 _).alloc Ze _).alloc Zd _;have cF:∀(o1 o2 o3:Obj),∀j u,(CK x.hn x.hs)[j]?=some u->(((w.alloc o1).alloc o2).alloc o3).cell? ((⟨b,off,none⟩:Addr).add j)=some u:=λo1 o2 o3 j u hj=>by
   obtain⟨h1,rfl⟩:=UV hj;obtain⟨b',off',e,_,_,e4⟩:=hc j h1;cases e;have ea:((⟨b,off,none⟩:Addr).add j)=⟨b,off+j,none⟩:=by simp[Addr.add]
   rw[ea,(FV o1 o2 o3).cell (p:=⟨b,off+j,none⟩) Zj];exact e4
  have HB:=Ab FV;clear FV;go_enter func22,ntmps22;go_wp2_with (at_builtin;go_must(refine wpList_append_own _ rfl _ _ 50 rfl (w.1.size+1+1) 9 i0 (.s ByteArray.empty) 1 16 underlying50 Fq GH C7 Fk rfl Zb _ 0 [] rfl (Th _ _) ⟨b,off,none⟩ x.hn cap (CK x.hn x.hs) rfl (by rw[Vm];omega) (cF _ _ _) (UF _ _) Zl Za Ze ?_;intro v1 w1 CW LX _;have BH:=Ab CW;obtain⟨g',cap',rfl,Mx,hS⟩:=L3 (by simpa only[A6,Dt]using CW) YT;have HRO:=Ab (Rm BH);clear CW BH;obtain⟨A0,A1,F0,F1,hB,hz⟩:=Xi LX;clear LX;have p0:=A0 0;have p1:=A0 1;have p2:=A0 2;have p3:=A0 3;have p4:=A0 4;have p5:=A0 5;have p6:=A0 6;have q0:=A1 0;have q1:=A1 1;have q2:=A1 2;have q3:=A1 3;have q4:=A1 4;have q5:=A1 5;have q6:=A1 6;simp only[Ah,Ai,Af]at p0 p1 p2 p3 p4 p5 p6 q0 q1 q2 q3 q4 q5 q6;clear A0 A1;have HS:=Ab hS;clear hS Th cF hc));refine bodyPost_ret (v:=.agg (vO x (some ⟨g',0,none⟩) cap')) (by simp[results,results22,go_sem,q0,q1,q2,q3,q4,q5,q6]) rfl ⟨_,_,rfl,⟨Mx,λh=>absurd h Za,λ_=>⟨g',rfl,by have:=HRO.out.2;omega,?_⟩⟩,?_,?_⟩;.refine(Oq cap'▸HRO.out.1).frO (lo:=w.1.size) (hi:=w.1.size+2) ?_ (by have:=HRO.out.2;omega);exact cx
  .simp only[Be];refine(BA.fr HS (lo2:=w.1.size) (hi2:=w.1.size+2) ?_ A9 Za).mono Za A9;exact cx
  .refine hB.trans (Fr.below (lo:=w.1.size) (hi:=w.1.size+2) ?_ A9 hB.size);exact cx
theorem N6{a b:Int}(h:(DataW.lit (.i a):DataW Unit)=.lit (.i b)):a=b:=by cases h;rfl
def Q_:Ob:=⟨⟨#[]⟩,⟨#[]⟩,0,0,⟨#[]⟩,false,0,λ_=>⟨#[]⟩⟩
def Ck (x:Nat->Ob)(a b:ByteArray)(n:Nat):Ob:=match LP x a b n with|some i=>x i|none=>Q_
def CC (x:Nat->Ob)(a b:ByteArray)(n:Nat):Bool:=(LP x a b n).isSome
theorem v9 (h:LP x a b k=some i):∀{n:Nat},k<=n->LP x a b n=some i:=by intro n hn;induction n with
 |zero=>have:k=0:=Za;subst this;exact h
 |succ m ih=>
   rcases AD m k with h1|h1;.have:k=m+1:=Za;subst this;exact h
   .exact JM (ih h1)
theorem IV (h:a.toList=b.toList):a=b:=by
 have h1:a.data.toList=b.data.toList:=by simpa[ByteArray.toList_eq]using h
 cases a;cases b;simp at h1;exact congrArg ByteArray.mk h1
theorem Ce (now floor:Int)(n:Nat)(x:Nat->Ob)(a1 a2 a3:OA)(c1 n2 c2 n3 c3:Nat)(ki na:ByteArray)(w:World)(lo hi:Nat)(CD:hi<=w.1.size)(hl:(n:Int)<=1099511627776)(hf:∀i,i<n->Cu (x i))(hc:Bh w lo hi a1 n x):Calls prog 57 #[.agg #[.i now,.i floor,.l a1 n c1,.l a2 n2 c2,.l a3 n3 c3],.s ki,.s na] w λe w'=>∃ad' cap',e=.returned (.tuple #[.agg (vO (Ck x ki na n) ad' cap'),.bool (CC x ki na n)])/\(Ck x ki na n).hn<=cap'/\BA w' w.1.size w'.1.size ad' (Ck x ki na n).hn (Ck x ki na n).hs/\Below w.1.size w w':=by
 have MU:∀o1 o2:Obj,Below w.1.size w ((w.alloc o1).alloc o2):=λo1 o2=>((Ap _ _).alloc A9 _).alloc Ze _;have HB:=Ab MU;clear MU;go_enter func57,ntmps57;go_wp2;go_loopw[8](λi wr=>∃k:Nat,k<=n/\i=.i k/\LP x ki na k=none/\wr=(w.alloc (.cells #[.i now,.i floor,.l a1 n c1,.l a2 n2 c2,.l a3 n3 c3] 36)).alloc (.cells #[.s ⟨#[]⟩,.s ⟨#[]⟩,.i 0,.i 0,.s ⟨#[]⟩,.bool false,.l none 0 0] 52))(λi _=>n-(intOf i).toNat);case atStart=>exact⟨0,Ar _,rfl,rfl,rfl⟩
 case round=>
  obtain⟨k,hk,rfl,I4,rfl⟩:=hrel;by_cases B7:k<n
  .obtain⟨b,off,ah,ch,rfl,Gc,Ja,Dh,Il⟩:=hc k B7;have hfi:=(hf k B7).h;obtain⟨d0,d1,d2,d3,d4,d5,d6⟩:=Dh.below (HB (.cells #[.i now,.i floor,.l (some ⟨b,off,none⟩) n c1,.l a2 n2 c2,.l a3 n3 c3] 36) (.cells #[.s ⟨#[]⟩,.s ⟨#[]⟩,.i 0,.i 0,.s ⟨#[]⟩,.bool false,.l none 0 0] 52)) Za;have HF:=Ab I4;clear hc hf Dh I4;go_wp2_with fail
   .have hh:(x k).k=ki/\(x k).n=na:=⟨IV (by assumption),IV (by have h9:((x k).n.toList==na.toList)=true:=(by assumption);exact eq_of_beq h9)⟩;have vn:=Ab (UN HF hh);have HN:=Ab (v9 vn (show k+1<=n by omega));clear hh HF vn;refine(Iy (x k) ah ch _ lo hi Zd hfi (Il.below (HB _ _) CD)).mono ?_;rintro e w1 ⟨ah',ch',rfl,Mx,La,AU⟩;have HCP:=Ab Mx.le;clear Mx;have Fp:Below w.1.size w w1:=(HB _ _).trans (AU.mono Zd);obtain⟨A0,A1,F0,F1⟩:=Sk AU;obtain⟨q0,q1,q2,q3,q4,q5,q6⟩:=je A1;have hz:=AU.size;simp only[Av]at La hz;have HO:=Ab La;clear A0 A1 F0 AU La d0 d1 d2 d3 d4 d5 d6 Il;go_wp2;have e1:Ck x ki na n=x k:=by unfold Ck;rw[HN.out]
    have e2:CC x ki na n=true:=by unfold CC;rw[HN.out];rfl
    rw[e1,e2];refine bodyPost_ret (v:=.tuple #[.agg (vO (x k) ah' ch'),.bool true]) (by simp[results,results57,go_sem,q0,q1,q2,q3,q4,q5,q6]) rfl ⟨ah',ch',rfl,HCP,?_,?_⟩;.simp only[Be];refine(BA.fr HO (lo2:=w.1.size) (hi2:=w.1.size+2) ?_ A9 Za).mono Za A9;exact vu
    .refine Fp.trans (Fr.below (lo:=w.1.size) (hi:=w.1.size+2) ?_ A9 Fp.size);exact vu
   .have hh:¬((x k).k=ki/\(x k).n=na):=λe=>by
     have h9:((x k).n.toList==na.toList)=false:=by assumption
     rw[e.2]at h9;simp at h9
    exact wm
   .have hh:¬((x k).k=ki/\(x k).n=na):=λe=>by
     have h9:¬(x k).k.toList=ki.toList:=by assumption
     exact h9 (by rw[e.1])
    exact wm
  .have:k=n:=Za;subst this;have HF:=Ab I4;clear hc hf I4;go_wp2;have e1:Ck x ki na k=Q_:=by unfold Ck;rw[HF.out]
   have e2:CC x ki na k=false:=by unfold CC;rw[HF.out];rfl
   rw[e1,e2];refine bodyPost_ret (v:=.tuple #[.agg #[.s ⟨#[]⟩,.s ⟨#[]⟩,.i 0,.i 0,.s ⟨#[]⟩,.bool false,.l none 0 0],.bool false]) (by simp[results,results57,go_sem]) rfl ⟨none,0,rfl,AG _,?_,?_⟩;.intro j hj;exact absurd hj (Ae _)
   .exact HB _ _
end Go.Proofs.YtdknjmgdgnmhjaaGreat
