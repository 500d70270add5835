import Derived.Test.YtllmmkchokkaaaaGreatDoorPk04
import Derived.Test.YtllmmkchokkaaaaGreatDoorPk02
import Derived.Test.YtllmmkchokkaaaaGreatDoorPk03
import Derived.Laws.IdiomCopy
import Derived.Laws.CopyOwn
import Derived.Sort.Row
import Derived.Deep.RegionWith
set_option maxRecDepth 100000
set_option maxHeartbeats 4000000
namespace Go.Proofs.YtllmmkchokkaaaaGreatDoor
open Go.RowKit Go.Proofs.Tryz
structure GW(w:World)where
 val:World
 prop:Below w.1.size w val
theorem Ay{P:Program}{id:Nat}{Q:Exit->Act->World->Prop}{a:Act}{w:World}{l:List Oper}(hm:P.follows .mixedOrders=true)(hB:Region.lexB .any l.toArray=true)(h:wpQuiet P l.toArray (λw'=>∃u:GW w,w'=u.val) (λa'=>∀w',(∃u:GW w,w'=u.val)->Q .normal a' w') l a):(Code.region id l.toArray true).wp P Q a w:=wp_region_quiet (C:=λw'=>∃u:GW w,w'=u.val) hm hB ⟨⟨w.drew,(Ak _ _).drew⟩,rfl⟩ (by simpa using h)
theorem AY{P:Program}{f:FuncId}{args:Array Value}{w:World}{v:Value}{u:GW w}(h:Calls P f args u.val λe w'=>e=.returned v/\Below u.val.1.size u.val w'):Calls P f args u.val λe w''=>e=.returned v/\∃u':GW w,w''=u'.val:=h.mono λ_ w''⟨he,hb⟩=>⟨he,⟨w'',u.prop.trans (hb.mono u.prop.size)⟩,rfl⟩
theorem Aj{W1:World}{p:Addr}{v:Value}(h:W1.cell? p=some v)(hp:p.block<W1.1.size):∀u:GW W1,u.val.cell? p=some v:=λu=>(u.prop.cell hp).trans h
def BM(x:Ob)(now:Int):Bool:=Bv x.kind&&(Bv x.name&&(DU x.ver 1 now&&(DU x.born 1 x.ver&&(decide (x.text.size<=300)&&Em x.hn x.hs))))
theorem By(w:World)(q:Nat):Below w.1.size w (w.drewN q):=⟨rfl,rfl,rfl,Aw _,λ_ _=>rfl⟩
theorem KG{P:Prop}(h:P:=by go_enter func126,ntmps126;go_wp2_with(first|(go_at_call 110;refine(AZ _ _ (by first|exact fk|exact fn)).mono ?_;rintro e w1⟨rfl,rfl⟩)|(go_at_call 70;refine(Cf _ _ _ _).mono ?_;rintro e w1⟨rfl,rfl⟩)|(go_at_call 175;refine(kU x.hn x.hs ad cap _ lo hi hfh fs (hcA _)).mono ?_;rintro e w1⟨rfl,q,rfl⟩));go_ret;exact⟨Av HE.symm,by first|exact An _ _|exact(An _ _).trans ((By _ _).mono Ze)⟩):P:=h
theorem QV(x:Ob)(now:Int)(ad:OA)(cap:Nat)(w:World)(lo hi:Nat)(hhi:hi<=w.1.size)(hf:CW x)(hc:AB w lo hi ad x.hn x.hs):Calls prog 126 #[.agg (vO x ad cap),.i now] w λe w'=>e=.returned (.bool (BM x now))/\Below w.1.size w w':=by obtain⟨fk,fn,ft,fh,fs,_⟩:=hf;have hfh:(x.hn:Int)<=140737488355328:=Za;have hcA:=λo=>hc.alloc hhi o;cases h1:Bv x.kind with
 |false=>have HE:=Ai (show BM x now=false by simp[BM,h1]);exact KG
 |true=>cases h2:Bv x.name with
  |false=>have HE:=Ai (show BM x now=false by simp[BM,h1,h2]);exact KG
  |true=>cases h3:DU x.ver 1 now with
   |false=>have HE:=Ai (show BM x now=false by simp[BM,h1,h2,h3]);exact KG
   |true=>cases h4:DU x.born 1 x.ver with
    |false=>have HE:=Ai (show BM x now=false by simp[BM,h1,h2,h3,h4]);exact KG
    |true=>
     by_cases h5:(x.text.size:Int)<=300;case neg=>have h5b:decide (x.text.size<=300)=false:=decide_eq_false Za;have HE:=Ai (show BM x now=false by simp[BM,h1,h2,h3,h4,h5b]);exact KG
     have h5b:decide (x.text.size<=300)=true:=decide_eq_true Za;by_cases h6:(x.hn:Int)<=5;case neg=>
      have h6b:Em x.hn x.hs=false:=by unfold Em;rw[decide_eq_false Za];rfl
      have HE:=Ai (show BM x now=false by simp[BM,h1,h2,h3,h4,h5b,h6b]);exact KG
     cases h7:Yx x.hn x.hs with
     |false=>
      have h6b:Em x.hn x.hs=false:=by unfold Em;rw[h7];simp
      have HE:=Ai (show BM x now=false by simp[BM,h1,h2,h3,h4,h5b,h6b]);exact KG
     |true=>
      have h6b:Em x.hn x.hs=true:=by unfold Em;rw[h7,decide_eq_true (show x.hn<=5 by omega)];rfl
      have HE:=Ai (show BM x now=true by simp[BM,h1,h2,h3,h4,h5b,h6b]);exact KG
theorem Lv{P:Prop}(h:P:=by go_enter func136,ntmps136;go_wp2_with (first|(go_at_call 90;refine(CC _ _ (by first|exact fk|exact fn)).mono ?_;rintro e w1⟨rfl,rfl⟩)|(go_at_call 118;refine(Dz _ _ _ _).mono ?_;rintro e w1⟨rfl,rfl⟩)|(go_at_call 177;refine(Rr x.hn x.hs ad cap _ lo hi hfh fs (hcA _)).mono ?_;rintro e w1⟨rfl,q,rfl⟩));go_ret;exact⟨Av HE.symm,by first|exact An _ _|exact(An _ _).trans ((By _ _).mono Ze)⟩):P:=h
theorem GS (x:Ob)(now:Int)(ad:OA)(cap:Nat)(w:World)(lo hi:Nat)(hhi:hi<=w.1.size)(hf:CW x)(hc:AB w lo hi ad x.hn x.hs):Calls prog 136 #[.agg (vO x ad cap),.i now] w λe w'=>e=.returned (.bool (BM x now))/\Below w.1.size w w':=by obtain⟨fk,fn,ft,fh,fs,_⟩:=hf;have hfh:(x.hn:Int)<=140737488355328:=Za;have hcA:=λo=>hc.alloc hhi o;cases h1:Bv x.kind with
 |false=>have HE:=Ai (show BM x now=false by simp[BM,h1]);exact Lv
 |true=>cases h2:Bv x.name with
  |false=>have HE:=Ai (show BM x now=false by simp[BM,h1,h2]);exact Lv
  |true=>cases h3:DU x.ver 1 now with
   |false=>have HE:=Ai (show BM x now=false by simp[BM,h1,h2,h3]);exact Lv
   |true=>cases h4:DU x.born 1 x.ver with
    |false=>have HE:=Ai (show BM x now=false by simp[BM,h1,h2,h3,h4]);exact Lv
    |true=>
     by_cases h5:(x.text.size:Int)<=300;case neg=>have h5b:decide (x.text.size<=300)=false:=decide_eq_false Za;have HE:=Ai (show BM x now=false by simp[BM,h1,h2,h3,h4,h5b]);exact Lv
     have h5b:decide (x.text.size<=300)=true:=decide_eq_true Za;cases h6:Em x.hn x.hs with
     |false=>have HE:=Ai (show BM x now=false by simp[BM,h1,h2,h3,h4,h5b,h6]);exact Lv
     |true=>have HE:=Ai (show BM x now=true by simp[BM,h1,h2,h3,h4,h5b,h6]);exact Lv
theorem ME (x:Ob)(now:Int)(en:Bool)(hen:x.ending=en)(ad:OA)(cap:Nat)(w:World)(lo hi:Nat)(hhi:hi<=w.1.size)(hf:CW x)(hc:AB w lo hi ad x.hn x.hs):Calls prog 126 #[.agg #[.s x.kind,.s x.name,.i x.ver,.i x.born,.s x.text,.bool en,.l ad x.hn cap],.i now] w λe w'=>e=.returned (.bool (BM x now))/\Below w.1.size w w':=by subst hen;exact QV x now ad cap w lo hi hhi hf hc
theorem RU (x z:Ob)(e1 e2:Bool)(ad ad2:OA)(cap cap2:Nat)(w:World):Calls prog 127 #[.agg #[.s x.kind,.s x.name,.i x.ver,.i x.born,.s x.text,.bool e1,.l ad x.hn cap],.agg #[.s z.kind,.s z.name,.i z.ver,.i z.born,.s z.text,.bool e2,.l ad2 z.hn cap2]] w λe w'=>e=.returned (.i (Eo x z))/\Below w.1.size w w':=OF ⟨x.kind,x.name,x.ver,x.born,x.text,e1,x.hn,x.hs⟩ ⟨z.kind,z.name,z.ver,z.born,z.text,e2,z.hn,z.hs⟩ ad ad2 cap cap2 w
def RE (c:Nat->Value)(i:Nat)(y:Ob)(A:OA)(C:Nat):Prop:=c (i*7)=.s y.kind/\c (i*7+1)=.s y.name/\c (i*7+2)=.i y.ver/\c (i*7+3)=.i y.born/\c (i*7+4)=.s y.text/\c (i*7+5)=.bool y.ending/\c (i*7+6)=.l A y.hn C
theorem D6{c:Nat->Value}{i:Nat}{y:Ob}{A:OA}{C:Nat}(h:RE c i y A C){k o:Nat}(hik:¬i=k)(h1:k*7<=o)(h2:o<k*7+7)(v:Value):RE (D9 c o v) i y A C:=by obtain⟨a0,a1,a2,a3,a4,a5,a6⟩:=h;exact⟨(if_neg Za).trans a0,(if_neg Za).trans a1,(if_neg Za).trans a2,(if_neg Za).trans a3,(if_neg Za).trans a4,(if_neg Za).trans a5,(if_neg Za).trans a6⟩
def Vy (m:Nat)(o:Ob):Ob:=⟨mt m,mt (m+1),(m:Int)+2,(m:Int)+3,mt (m+4),decide (((m:Int)+5)%3=0),o.hn,λj=>mt (m+6+j)⟩
def Ci (k0:Nat)(x:Nat->Ob):Nat->Nat|0=>k0|n+1=>Ci k0 x n+6+(x n).hn
theorem LK (k0:Nat)(x:Nat->Ob){k n:Nat}(h:k<=n):Ci k0 x k<=Ci k0 x n:=by induction n with
 |zero=>have:k=0:=Za;subst this;exact Aw _
 |succ m ih=>
   rcases As m k with h1|h1;.have:k=m+1:=Za;subst this;exact Aw _
   .exact AA (ih h1) (by simp only[Ci];omega)
theorem Jn (k0:Nat)(x:Nat->Ob)(k:Nat)(h:1<=k0):1<=Ci k0 x k:=AA h (LK k0 x (Ap k))
def Kt (k0:Nat)(x:Nat->Ob)(k i:Nat):Ob:=if i<k then Vy (Ci k0 x i) (x i)else x i
theorem Xd (k0:Nat)(x:Nat->Ob):Kt k0 x 0=x:=funext λi=>if_neg (Al i)
theorem OI{k0:Nat}{x:Nat->Ob}{k i:Nat}(h:i<k):Kt k0 x k i=Vy (Ci k0 x i) (x i):=if_pos h
theorem VW{k0:Nat}{x:Nat->Ob}{k i:Nat}(h:k<=i):Kt k0 x k i=x i:=if_neg Za
theorem U0{P:Prop}(h:P:=by
  by_cases h1:i<k;.rw[if_pos h1,if_pos Za]
  .rw[if_neg h1,if_neg Za]):P:=h
theorem VZ{k0:Nat}{x:Nat->Ob}{k i:Nat}(h:¬i=k):Kt k0 x (k+1) i=Kt k0 x k i:=by unfold Kt;exact U0
theorem F8 (k0:Nat)(x:Nat->Ob)(k i:Nat):(Kt k0 x k i).hn=(x i).hn:=by unfold Kt;split<;>rfl
structure D5 (w:World)(ad:OA)(g n:Nat)(x:Nat->Ob)(A:Nat->Option Addr)(C:Nat->Nat)(hb:Nat->Nat):Prop where
 addr:0<n->ad=some ⟨g,0,none⟩row:0<n->∃c,AH w g (n*7) c/\∀i,i<n->RE c i (x i) (A i) (C i)hold:∀i,i<n->AV w (hb i) (hb i+1) (A i) (x i).hn (x i).hs
 hlt:∀i,i<n->(x i).hn≠0->hb i<w.1.size
 ap:O0 g n (λi=>(x i).hn) hb
theorem D5.fr{w w':World}{ad:OA}{g n:Nat}{x:Nat->Ob}{A:Nat->Option Addr}{C:Nat->Nat}{hb:Nat->Nat}{P:Nat->Prop}(h:D5 w ad g n x A C hb)(hf:AP P w w')(hp:∀k,GA g n (λi=>(x i).hn) hb k->¬P k):D5 w' ad g n x A C hb:=⟨h.addr,λh0=>by obtain⟨c,r,e⟩:=h.row h0;exact⟨c,r.fr hf (hp g (AD ⟨h0,rfl⟩)),e⟩,λi hi=>(h.hold i hi).frP hf (λh0=>⟨hp (hb i) (Ax ⟨i,hi,h0,rfl⟩),h.hlt i hi h0⟩),λi hi h0=>Aa (h.hlt i hi h0) hf.size,h.ap⟩
theorem D5.grow{w w':World}{ad:OA}{g n:Nat}{x:Nat->Ob}{A:Nat->Option Addr}{C:Nat->Nat}{hb:Nat->Nat}(h:D5 w ad g n x A C hb)(hf:Below w.1.size w w'):D5 w' ad g n x A C hb:=h.fr (Aq (P:=λ_=>False) hf) (λ_ _ h=>h)
theorem Vt{P:Prop}(h:P:=by have:k=n:=Za;subst this;have HO:=Ai ho;clear ho;go_wp2;go_ret;exact⟨rfl,HO,hfr⟩):P:=h
theorem V1{P:Prop}(h:P:=by
  go_wp2;go_roundw;case rel=>exact⟨k+1,Za,by go_num,by rw[HM.out];apply congrArg;omega,yQ.out,sQ.out⟩
  case measure=>simp[intOf];omega):P:=h
theorem SY (ad:OA)(g n:Nat)(x:Nat->Ob)(A:Nat->Option Addr)(C:Nat->Nat)(hb:Nat->Nat)(cap k0:Nat)(w:World)(hl:(n:Int)<=1048576)(hk1:1<=(k0:Int))(hk2:(Ci k0 x n:Int)<=1073741824)(hc:D5 w ad g n x A C hb):Calls prog 48 #[.l ad n cap,.i k0] w λe w'=>e=.returned (.i (Ci k0 x n))/\D5 w' ad g n (Kt k0 x n) A C hb/\AP (GA g n (λi=>(x i).hn) hb) w w':=by
 go_enter func48,ntmps48;go_wp2;go_loopw[1,5](λt i wr=>∃k:Nat,k<=n/\i=.i k/\t=.i (Ci k0 x k)/\AP (GA g n (λi=>(x i).hn) hb) w wr/\D5 wr ad g n (Kt k0 x k) A C hb)(λ_ i _=>n-(intOf i).toNat);case atStart=>exact⟨0,Ap _,rfl,rfl,AP.refl _ _,by rw[Xd];exact hc⟩
 case round=>
  obtain⟨k,hk,rfl,rfl,hfr,ho⟩:=hrel;clear hc;by_cases hkn:k<n
  .have hmo:=LK k0 x (k:=k+1) (n:=n) Za;have hm1:=Jn k0 x k Za;have hms:Ci k0 x (k+1)=Ci k0 x k+6+(x k).hn:=rfl;have HM:Hid (Ci k0 x (k+1)=Ci k0 x k+6+(x k).hn):=hms;have hm:Ci k0 x k+6+(x k).hn<=1073741824:=Za;clear hmo hms;obtain⟨m,hme⟩:∃m,Ci k0 x k=m:=⟨_,rfl⟩;rw[hme]at hm1 hm HM⊢;have YZ:=Ai hme;clear hme;obtain rfl:=ho.addr Za;obtain⟨c,r0,hat⟩:=ho.row Za;have HO:=Ai ho;have KO:=Ai hat;have hfr':=Ai hfr;have h6:c (k*7+6)=.l (A k) (x k).hn (C k):=by have:=(hat k hkn).2.2.2.2.2.2;rw[VW (Aw k)]at this;exact this
   have H6:=Ai h6;clear h6;clear ho hat hfr;have f0:AP (λq=>q=g) wr wr:=AP.refl _ _;go_wp2_with fail;refine(BI _ (m+0) Za _ Za Za).mono ?_;rintro e w1⟨rfl,b1⟩;have r1:=r0.below b1 tP;have f1:=f0.trans (Aq b1);clear r0 f0 b1;have q0:=r1.cell (k*7) Za;have qf1:=r1.free;go_wp2_with fail;refine(BI _ (m+1) Za _ Za Za).mono ?_;rintro e w2⟨rfl,b2⟩;have r2:=(r1.set (o:=k*7) Za _).below b2 tN;have f2:=(f1.setCell (p:=⟨g,k*7,none⟩) rfl _).trans (Aq b2);clear q0 qf1 r1 f1 b2;have q1:=r2.cell (k*7+1) Za;have q2:=r2.cell (k*7+2) Za;have q3:=r2.cell (k*7+3) Za;have qf2:=r2.free;go_wp2_with fail;refine(BI _ (m+4) Za _ Za Za).mono ?_;rintro e w3⟨rfl,b3⟩;have r3:=(((r2.set (o:=k*7+1) Za _).set (o:=k*7+2) Za _).set (o:=k*7+3) Za _).below b3 xO;have f3:=(((f2.setCell (p:=⟨g,k*7+1,none⟩) rfl _).setCell (p:=⟨g,k*7+2,none⟩) rfl _).setCell (p:=⟨g,k*7+3,none⟩) rfl _).trans (Aq b3);clear q1 q2 q3 qf2 r2 f2 b3;have q4:=r3.cell (k*7+4) Za;have q5:=r3.cell (k*7+5) Za;have qf3:=r3.free;have q6:w3.cell? ⟨g,k*7+6,none⟩=some (.slice (A k) (x k).hn (C k)):=(r3.cell (k*7+6) Za).trans (congrArg some (Eq.trans (by simp[D9]) H6.out));have hkh:=HO.hlt k hkn;rw[F8]at hkh;have hkne:=HO.ap.ne k hkn;have hho:=HO.hold k hkn;rw[VW (Aw k)]at hho;have s9:=Ai hkh;have YF:Hid ((x k).hn≠0->¬hb k=g):=λh0=>hkne (by show(Kt k0 x k k).hn≠0;rw[F8];exact h0);have oP:=Ai hho;have hz:=f3.size;clear hkh hkne hho;go_wp2_with fail;refine(Mo (x k).hn (x k).hs (A k) (C k) _ (m+6) Za _ (hb k) (λh0=>(by have:=s9 h0;simp only[Az];omega)) Za Za Za (oP.frP ((f3.setCell (p:=⟨g,k*7+4,none⟩) rfl _).setCell (p:=⟨g,k*7+5,none⟩) rfl _) (λh0=>⟨YF h0,s9 h0⟩))).mono ?_;rintro e w9⟨rfl,hs9,f9⟩;have r9:=((r3.set (o:=k*7+4) Za _).set (o:=k*7+5) Za _).fr f9 (λh0=>YF.out h0.1 h0.2.symm);have F9:=((f3.setCell (p:=⟨g,k*7+4,none⟩) rfl _).setCell (p:=⟨g,k*7+5,none⟩) rfl _).link f9;have tD:D5 w9 (some ⟨g,0,none⟩) g n (Kt k0 x (k+1)) A C hb:=by
    refine⟨λ_=>rfl,λ_=>⟨_,r9,λi hi=>?_⟩,λi hi=>?_,λi hi h0=>?_,?_⟩
    .by_cases e:i=k;.subst e;rw[OI (Bp i),YZ.out];refine⟨?_,?_,?_,?_,?_,?_,?_⟩;all_goals first|(simp[D9,Vy];done)|(simp[D9,Vy];omega)|(simp[D9,Vy];exact TX Za)|(exact(by simp[D9])▸H6.out)|(simp[D9,Vy,H6.out];done)
     .rw[VZ e];exact(D6 (D6 (D6 (D6 (D6 (D6 (KO i hi) e (k:=k) Za Za _) e (k:=k) Za Za _) e (k:=k) Za Za _) e (k:=k) Za Za _) e (k:=k) Za Za _) e (k:=k) Za Za _)
    .by_cases e:i=k;.subst e;rw[OI (Bp i),YZ.out];exact hs9
     .rw[VZ e];have hn0:=F8 k0 x k i;refine((HO.hold i hi).frP F9 (λh0=>⟨HO.ap.ne i hi h0,HO.hlt i hi h0⟩)).frP f9 (λh0=>⟨λh1=>e (HO.ap.inj i k hi hkn h0 (by show(Kt k0 x k k).hn≠0;rw[F8];exact h1.1) h1.2),Aa (HO.hlt i hi h0) F9.size⟩)
    .rw[F8]at h0;exact Aa (HO.hlt i hi (by rw[F8];exact h0)) (AA F9.size f9.size)
    .exact HO.ap.congr (λi=>by show(Kt k0 x k i).hn=(Kt k0 x (k+1) i).hn;rw[F8,F8])
   have sQ:=Ai tD;have yQ:=Ai (hfr'.trans ((F9.mono (λq hq=>AD ⟨Za,hq⟩)).trans (f9.mono (λq hq=>Ax ⟨k,hkn,hq.1,hq.2⟩))));clear q4 q5 q6 qf3 tD r9 f9 F9 hs9 r3 f3;exact V1
  .exact Vt
theorem Tz (ad:OA)(g n:Nat)(x:Nat->Ob)(A:Nat->Option Addr)(C:Nat->Nat)(hb:Nat->Nat)(cap k0:Nat)(w:World)(hl:(n:Int)<=1048576)(hk1:1<=(k0:Int))(hk2:(Ci k0 x n:Int)<=1073741824)(hc:D5 w ad g n (Kt k0 x n) A C hb):Calls prog 64 #[.l ad n cap,.i k0] w λe w'=>e=.returned (.i (Ci k0 x n))/\Below w.1.size w w':=by
 have HO:=Ai hc;clear hc;go_enter func64,ntmps64;go_wp2;go_loopw[1,5](λt i wr=>∃k:Nat,k<=n/\i=.i k/\t=.i (Ci k0 x k)/\Below w.1.size w wr)(λ_ i _=>n-(intOf i).toNat);case atStart=>exact⟨0,Ap _,rfl,rfl,Ak _ _⟩
 case round=>
  obtain⟨k,hk,rfl,rfl,b0⟩:=hrel;by_cases hkn:k<n
  .have hmo:=LK k0 x (k:=k+1) (n:=n) Za;have hm1:=Jn k0 x k Za;have hms:Ci k0 x (k+1)=Ci k0 x k+6+(x k).hn:=rfl;have HM:Hid (Ci k0 x (k+1)=Ci k0 x k+6+(x k).hn):=hms;have hm:Ci k0 x k+6+(x k).hn<=1073741824:=Za;clear hmo hms;have hadr:=HO.addr Za;obtain⟨c,rr,hat⟩:=HO.row Za;have hak:=hat k hkn;rw[OI hkn]at hak;have hho:=HO.hold k hkn;have hhl:=HO.hlt k hkn;rw[OI hkn]at hho hhl;obtain⟨m,hme⟩:∃m,Ci k0 x k=m:=⟨_,rfl⟩;rw[hme]at hm1 hm HM hak hho hhl⊢;clear hme hat;subst hadr;obtain⟨a0,a1,a2,a3,a4,a5,a6⟩:=hak;replace a0:c (k*7)=.s (mt m):=a0;replace a1:c (k*7+1)=.s (mt (m+1)):=a1;replace a2:c (k*7+2)=.i ((m:Int)+1+1):=a2.trans xJ;replace a3:c (k*7+3)=.i ((m:Int)+1+1+1):=a3.trans xJ;replace a4:c (k*7+4)=.s (mt (m+4)):=a4;replace a5:c (k*7+5)=.bool (((m:Int)+1+1+1+1+1)%3==0):=a5.trans xJ;replace a6:c (k*7+6)=.l (A k) (x k).hn (C k):=a6;have A0:=Ai a0;have A1:=Ai a1;have A2:=Ai a2;have A3:=Ai a3;have A4:=Ai a4;have A5:=Ai a5;have A6:=Ai a6;have RR:=Ai rr;have hgw:=rr.lt;clear rr a0 a1 a2 a3 a4 a5 a6;have oP:Hid (AV w (hb k) (hb k+1) (A k) (x k).hn (λi=>mt (m+6+i))):=hho;have sO:Hid ((x k).hn≠0->hb k<w.1.size):=hhl;clear hho hhl;have z1:=b0.size;have qq0:=((RR.out.below b0 hgw).cell (k*7) Za).trans (congrArg some A0.out);have y0:=Aj qq0 (by show g<_;omega);have hne1:Nonempty (GW wr):=⟨⟨_,Ak _ _⟩⟩;go_wp2;refine Ay Zc Zc ?_;repeat(go_big_quiet_step((go_at_call 107;go_must(exact AY (BI _ (m+0) Za _ Za Za)))))
   refine wpQuiet_nil ?_;rintro w1⟨u,hu⟩;have c1:Below wr.1.size wr w1:=hu▸u.prop;have b1:=b0.trans (c1.mono Za);clear hu u hne1 qq0 y0 c1;have z2:=b1.size;have qq1:=((RR.out.below b1 hgw).cell (k*7+1) Za).trans (congrArg some A1.out);have y1:=Aj qq1 (by show g<_;omega);have hne2:Nonempty (GW w1):=⟨⟨_,Ak _ _⟩⟩;go_wp2;refine Ay Zc Zc ?_;repeat(go_big_quiet_step((go_at_call 107;go_must(exact AY (BI _ (m+1) Za _ Za Za)))))
   refine wpQuiet_nil ?_;rintro w2⟨u,hu⟩;have c2:Below w1.1.size w1 w2:=hu▸u.prop;have b2:=b1.trans (c2.mono Za);clear hu u hne2 qq1 y1 c2;have q2:=((RR.out.below b2 hgw).cell (k*7+2) Za).trans (congrArg some A2.out);have q3:=((RR.out.below b2 hgw).cell (k*7+3) Za).trans (congrArg some A3.out);have z3:=b2.size;have qq4:=((RR.out.below b2 hgw).cell (k*7+4) Za).trans (congrArg some A4.out);have y4:=Aj qq4 (by show g<_;omega);have hne3:Nonempty (GW w2):=⟨⟨_,Ak _ _⟩⟩;go_wp2;refine Ay Zc Zc ?_;repeat(go_big_quiet_step((go_at_call 107;go_must(exact AY (BI _ (m+4) Za _ Za Za)))))
   refine wpQuiet_nil ?_;rintro w3⟨u,hu⟩;have c3:Below w2.1.size w2 w3:=hu▸u.prop;have b3:=b2.trans (c3.mono Za);clear hu u hne3 qq4 y4 c3 q2 q3;have q5:=((RR.out.below b3 hgw).cell (k*7+5) Za).trans (congrArg some A5.out);have q6:=((RR.out.below b3 hgw).cell (k*7+6) Za).trans (congrArg some A6.out);have zl:=b3.size;go_wp2_with fail;refine(Mu (x k).hn (A k) (C k) _ (m+6) Za _ (hb k) (λh0=>(by have:=sO h0;omega)) Za Za Za (oP.frP (Aq (P:=λ_=>False) b3) (λh0=>⟨λh=>h,sO h0⟩))).mono ?_;rintro e w9⟨rfl,c9⟩;have b9:=b3.trans (c9.mono Za);clear q6 q5 c9;go_wp2;go_roundw;case rel=>exact⟨k+1,Za,by go_num,by rw[HM.out];apply congrArg;omega,b9⟩
   case measure=>simp[intOf];omega
  .have:k=n:=Za;subst this;go_wp2;go_ret;exact⟨rfl,b0⟩
def LB (c:Nat->Value)(i:Nat)(y:Ch)(A:OA)(C:Nat):Prop:=c (i*9)=.i y.ver/\c (i*9+1)=.bool y.gone/\c (i*9+2)=.s y.ob.kind/\c (i*9+3)=.s y.ob.name/\c (i*9+4)=.i y.ob.ver/\c (i*9+5)=.i y.ob.born/\c (i*9+6)=.s y.ob.text/\c (i*9+7)=.bool y.ob.ending/\c (i*9+8)=.l A y.ob.hn C
theorem Dy{c:Nat->Value}{i:Nat}{y:Ch}{A:OA}{C:Nat}(h:LB c i y A C){k o:Nat}(hik:¬i=k)(h1:k*9<=o)(h2:o<k*9+9)(v:Value):LB (D9 c o v) i y A C:=by obtain⟨a0,a1,a2,a3,a4,a5,a6,a7,a8⟩:=h;exact⟨(if_neg Za).trans a0,(if_neg Za).trans a1,(if_neg Za).trans a2,(if_neg Za).trans a3,(if_neg Za).trans a4,(if_neg Za).trans a5,(if_neg Za).trans a6,(if_neg Za).trans a7,(if_neg Za).trans a8⟩
def Va (m:Nat)(o:Ch):Ch:=⟨m,decide (((m:Int)+1)%3=0),⟨mt (m+2),mt (m+3),(m:Int)+4,(m:Int)+5,mt (m+6),decide (((m:Int)+7)%3=0),o.ob.hn,λj=>mt (m+8+j)⟩⟩
def Cy (k0:Nat)(x:Nat->Ch):Nat->Nat|0=>k0|n+1=>Cy k0 x n+8+(x n).ob.hn
theorem Ij (k0:Nat)(x:Nat->Ch){k n:Nat}(h:k<=n):Cy k0 x k<=Cy k0 x n:=by induction n with
 |zero=>have:k=0:=Za;subst this;exact Aw _
 |succ m ih=>
   rcases As m k with h1|h1;.have:k=m+1:=Za;subst this;exact Aw _
   .exact AA (ih h1) (by simp only[Cy];omega)
theorem Jp (k0:Nat)(x:Nat->Ch)(k:Nat)(h:1<=k0):1<=Cy k0 x k:=AA h (Ij k0 x (Ap k))
def Kk (k0:Nat)(x:Nat->Ch)(k i:Nat):Ch:=if i<k then Va (Cy k0 x i) (x i)else x i
theorem XH (k0:Nat)(x:Nat->Ch):Kk k0 x 0=x:=funext λi=>if_neg (Al i)
theorem OM{k0:Nat}{x:Nat->Ch}{k i:Nat}(h:i<k):Kk k0 x k i=Va (Cy k0 x i) (x i):=if_pos h
theorem Wb{k0:Nat}{x:Nat->Ch}{k i:Nat}(h:k<=i):Kk k0 x k i=x i:=if_neg Za
theorem VX{k0:Nat}{x:Nat->Ch}{k i:Nat}(h:¬i=k):Kk k0 x (k+1) i=Kk k0 x k i:=by unfold Kk;exact U0
theorem GK (k0:Nat)(x:Nat->Ch)(k i:Nat):(Kk k0 x k i).ob.hn=(x i).ob.hn:=by unfold Kk;split<;>rfl
structure EG (w:World)(ad:OA)(g n:Nat)(x:Nat->Ch)(A:Nat->Option Addr)(C:Nat->Nat)(hb:Nat->Nat):Prop where
 addr:0<n->ad=some ⟨g,0,none⟩row:0<n->∃c,AH w g (n*9) c/\∀i,i<n->LB c i (x i) (A i) (C i)hold:∀i,i<n->AV w (hb i) (hb i+1) (A i) (x i).ob.hn (x i).ob.hs
 hlt:∀i,i<n->(x i).ob.hn≠0->hb i<w.1.size
 ap:O0 g n (λi=>(x i).ob.hn) hb
theorem EG.fr{w w':World}{ad:OA}{g n:Nat}{x:Nat->Ch}{A:Nat->Option Addr}{C:Nat->Nat}{hb:Nat->Nat}{P:Nat->Prop}(h:EG w ad g n x A C hb)(hf:AP P w w')(hp:∀k,GA g n (λi=>(x i).ob.hn) hb k->¬P k):EG w' ad g n x A C hb:=⟨h.addr,λh0=>by obtain⟨c,r,e⟩:=h.row h0;exact⟨c,r.fr hf (hp g (AD ⟨h0,rfl⟩)),e⟩,λi hi=>(h.hold i hi).frP hf (λh0=>⟨hp (hb i) (Ax ⟨i,hi,h0,rfl⟩),h.hlt i hi h0⟩),λi hi h0=>Aa (h.hlt i hi h0) hf.size,h.ap⟩
theorem EG.grow{w w':World}{ad:OA}{g n:Nat}{x:Nat->Ch}{A:Nat->Option Addr}{C:Nat->Nat}{hb:Nat->Nat}(h:EG w ad g n x A C hb)(hf:Below w.1.size w w'):EG w' ad g n x A C hb:=h.fr (Aq (P:=λ_=>False) hf) (λ_ _ h=>h)
theorem Tv (ad:OA)(g n:Nat)(x:Nat->Ch)(A:Nat->Option Addr)(C:Nat->Nat)(hb:Nat->Nat)(cap k0:Nat)(w:World)(hl:(n:Int)<=1048576)(hk1:1<=(k0:Int))(hk2:(Cy k0 x n:Int)<=1073741824)(hc:EG w ad g n x A C hb):Calls prog 49 #[.l ad n cap,.i k0] w λe w'=>e=.returned (.i (Cy k0 x n))/\EG w' ad g n (Kk k0 x n) A C hb/\AP (GA g n (λi=>(x i).ob.hn) hb) w w':=by
 go_enter func49,ntmps49;go_wp2;go_loopw[1,5](λt i wr=>∃k:Nat,k<=n/\i=.i k/\t=.i (Cy k0 x k)/\AP (GA g n (λi=>(x i).ob.hn) hb) w wr/\EG wr ad g n (Kk k0 x k) A C hb)(λ_ i _=>n-(intOf i).toNat);case atStart=>exact⟨0,Ap _,rfl,rfl,AP.refl _ _,by rw[XH];exact hc⟩
 case round=>
  obtain⟨k,hk,rfl,rfl,hfr,ho⟩:=hrel;clear hc;by_cases hkn:k<n
  .have hmo:=Ij k0 x (k:=k+1) (n:=n) Za;have hm1:=Jp k0 x k Za;have hms:Cy k0 x (k+1)=Cy k0 x k+8+(x k).ob.hn:=rfl;have HM:Hid (Cy k0 x (k+1)=Cy k0 x k+8+(x k).ob.hn):=hms;have hm:Cy k0 x k+8+(x k).ob.hn<=1073741824:=Za;clear hmo hms;obtain⟨m,hme⟩:∃m,Cy k0 x k=m:=⟨_,rfl⟩;rw[hme]at hm1 hm HM⊢;have YZ:=Ai hme;clear hme;obtain rfl:=ho.addr Za;obtain⟨c,r0,hat⟩:=ho.row Za;have HO:=Ai ho;have KO:=Ai hat;have hfr':=Ai hfr;have h6:c (k*9+8)=.l (A k) (x k).ob.hn (C k):=by have:=(hat k hkn).2.2.2.2.2.2.2.2;rw[Wb (Aw k)]at this;exact this
   have H6:=Ai h6;clear h6;clear ho hat hfr;have f0:AP (λq=>q=g) wr wr:=AP.refl _ _;have q0:=r0.cell (k*9) Za;have q1:=r0.cell (k*9+1) Za;have qf0:=r0.free;go_wp2_with fail;refine(BI _ (m+2) Za _ Za Za).mono ?_;rintro e w1⟨rfl,b1⟩;have r1:=((r0.set (o:=k*9) Za _).set (o:=k*9+1) Za _).below b1 tP;have f1:=((f0.setCell (p:=⟨g,k*9,none⟩) rfl _).setCell (p:=⟨g,k*9+1,none⟩) rfl _).trans (Aq b1);clear q0 q1 qf0 r0 f0 b1;have q2:=r1.cell (k*9+2) Za;have qf1:=r1.free;go_wp2_with fail;refine(BI _ (m+3) Za _ Za Za).mono ?_;rintro e w2⟨rfl,b2⟩;have r2:=(r1.set (o:=k*9+2) Za _).below b2 tN;have f2:=(f1.setCell (p:=⟨g,k*9+2,none⟩) rfl _).trans (Aq b2);clear q2 qf1 r1 f1 b2;have q3:=r2.cell (k*9+3) Za;have q4:=r2.cell (k*9+4) Za;have q5:=r2.cell (k*9+5) Za;have qf2:=r2.free;go_wp2_with fail;refine(BI _ (m+6) Za _ Za Za).mono ?_;rintro e w3⟨rfl,b3⟩;have r3:=(((r2.set (o:=k*9+3) Za _).set (o:=k*9+4) Za _).set (o:=k*9+5) Za _).below b3 xO;have f3:=(((f2.setCell (p:=⟨g,k*9+3,none⟩) rfl _).setCell (p:=⟨g,k*9+4,none⟩) rfl _).setCell (p:=⟨g,k*9+5,none⟩) rfl _).trans (Aq b3);clear q3 q4 q5 qf2 r2 f2 b3;have q6:=r3.cell (k*9+6) Za;have q7:=r3.cell (k*9+7) Za;have qf3:=r3.free;have q8:w3.cell? ⟨g,k*9+8,none⟩=some (.slice (A k) (x k).ob.hn (C k)):=(r3.cell (k*9+8) Za).trans (congrArg some (Eq.trans (by simp[D9]) H6.out));have hkh:=HO.hlt k hkn;rw[GK]at hkh;have hkne:=HO.ap.ne k hkn;have hho:=HO.hold k hkn;rw[Wb (Aw k)]at hho;have s9:=Ai hkh;have YF:Hid ((x k).ob.hn≠0->¬hb k=g):=λh0=>hkne (by show(Kk k0 x k k).ob.hn≠0;rw[GK];exact h0);have oP:=Ai hho;have hz:=f3.size;clear hkh hkne hho;go_wp2_with fail;refine(Mo (x k).ob.hn (x k).ob.hs (A k) (C k) _ (m+8) Za _ (hb k) (λh0=>(by have:=s9 h0;simp only[Az];omega)) Za Za Za (oP.frP ((f3.setCell (p:=⟨g,k*9+6,none⟩) rfl _).setCell (p:=⟨g,k*9+7,none⟩) rfl _) (λh0=>⟨YF h0,s9 h0⟩))).mono ?_;rintro e w9⟨rfl,hs9,f9⟩;have r9:=((r3.set (o:=k*9+6) Za _).set (o:=k*9+7) Za _).fr f9 (λh0=>YF.out h0.1 h0.2.symm);have F9:=((f3.setCell (p:=⟨g,k*9+6,none⟩) rfl _).setCell (p:=⟨g,k*9+7,none⟩) rfl _).link f9;have tD:EG w9 (some ⟨g,0,none⟩) g n (Kk k0 x (k+1)) A C hb:=by
    refine⟨λ_=>rfl,λ_=>⟨_,r9,λi hi=>?_⟩,λi hi=>?_,λi hi h0=>?_,?_⟩
    .by_cases e:i=k;.subst e;rw[OM (Bp i),YZ.out];refine⟨?_,?_,?_,?_,?_,?_,?_,?_,?_⟩;all_goals first|(simp[D9,Va];done)|(simp[D9,Va];omega)|(simp[D9,Va];exact TX Za)|(exact(by simp[D9])▸H6.out)|(simp[D9,Va,H6.out];done)
     .rw[VX e];exact(Dy (Dy (Dy (Dy (Dy (Dy (Dy (Dy (KO i hi) e (k:=k) Za Za _) e (k:=k) Za Za _) e (k:=k) Za Za _) e (k:=k) Za Za _) e (k:=k) Za Za _) e (k:=k) Za Za _) e (k:=k) Za Za _) e (k:=k) Za Za _)
    .by_cases e:i=k;.subst e;rw[OM (Bp i),YZ.out];exact hs9
     .rw[VX e];have hn0:=GK k0 x k i;refine((HO.hold i hi).frP F9 (λh0=>⟨HO.ap.ne i hi h0,HO.hlt i hi h0⟩)).frP f9 (λh0=>⟨λh1=>e (HO.ap.inj i k hi hkn h0 (by show(Kk k0 x k k).ob.hn≠0;rw[GK];exact h1.1) h1.2),Aa (HO.hlt i hi h0) F9.size⟩)
    .rw[GK]at h0;exact Aa (HO.hlt i hi (by rw[GK];exact h0)) (AA F9.size f9.size)
    .exact HO.ap.congr (λi=>by show(Kk k0 x k i).ob.hn=(Kk k0 x (k+1) i).ob.hn;rw[GK,GK])
   have sQ:=Ai tD;have yQ:=Ai (hfr'.trans ((F9.mono (λq hq=>AD ⟨Za,hq⟩)).trans (f9.mono (λq hq=>Ax ⟨k,hkn,hq.1,hq.2⟩))));clear q6 q7 q8 qf3 tD r9 f9 F9 hs9 r3 f3;exact V1
  .exact Vt
theorem Tt (ad:OA)(g n:Nat)(x:Nat->Ch)(A:Nat->Option Addr)(C:Nat->Nat)(hb:Nat->Nat)(cap k0:Nat)(w:World)(hl:(n:Int)<=1048576)(hk1:1<=(k0:Int))(hk2:(Cy k0 x n:Int)<=1073741824)(hc:EG w ad g n (Kk k0 x n) A C hb):Calls prog 65 #[.l ad n cap,.i k0] w λe w'=>e=.returned (.i (Cy k0 x n))/\Below w.1.size w w':=by
 have HO:=Ai hc;clear hc;go_enter func65,ntmps65;go_wp2;go_loopw[1,5](λt i wr=>∃k:Nat,k<=n/\i=.i k/\t=.i (Cy k0 x k)/\Below w.1.size w wr)(λ_ i _=>n-(intOf i).toNat);case atStart=>exact⟨0,Ap _,rfl,rfl,Ak _ _⟩
 case round=>
  obtain⟨k,hk,rfl,rfl,b0⟩:=hrel;by_cases hkn:k<n
  .have hmo:=Ij k0 x (k:=k+1) (n:=n) Za;have hm1:=Jp k0 x k Za;have hms:Cy k0 x (k+1)=Cy k0 x k+8+(x k).ob.hn:=rfl;have HM:Hid (Cy k0 x (k+1)=Cy k0 x k+8+(x k).ob.hn):=hms;have hm:Cy k0 x k+8+(x k).ob.hn<=1073741824:=Za;clear hmo hms;have hadr:=HO.addr Za;obtain⟨c,rr,hat⟩:=HO.row Za;have hak:=hat k hkn;rw[OM hkn]at hak;have hho:=HO.hold k hkn;have hhl:=HO.hlt k hkn;rw[OM hkn]at hho hhl;obtain⟨m,hme⟩:∃m,Cy k0 x k=m:=⟨_,rfl⟩;rw[hme]at hm1 hm HM hak hho hhl⊢;clear hme hat;subst hadr;obtain⟨a0,a1,a2,a3,a4,a5,a6,a7,a8⟩:=hak;replace a0:c (k*9)=.i ((m:Int)):=a0.trans tT;replace a1:c (k*9+1)=.bool (((m:Int)+1)%3==0):=a1.trans tT;replace a2:c (k*9+2)=.s (mt (m+2)):=a2;replace a3:c (k*9+3)=.s (mt (m+3)):=a3;replace a4:c (k*9+4)=.i ((m:Int)+1+1+1+1):=a4.trans tT;replace a5:c (k*9+5)=.i ((m:Int)+1+1+1+1+1):=a5.trans tT;replace a6:c (k*9+6)=.s (mt (m+6)):=a6;replace a7:c (k*9+7)=.bool (((m:Int)+1+1+1+1+1+1+1)%3==0):=a7.trans tT;replace a8:c (k*9+8)=.l (A k) (x k).ob.hn (C k):=a8;have A0:=Ai a0;have A1:=Ai a1;have A2:=Ai a2;have A3:=Ai a3;have A4:=Ai a4;have A5:=Ai a5;have A6:=Ai a6;have A7:=Ai a7;have A8:=Ai a8;have RR:=Ai rr;have hgw:=rr.lt;clear rr a0 a1 a2 a3 a4 a5 a6 a7 a8;have oP:Hid (AV w (hb k) (hb k+1) (A k) (x k).ob.hn (λi=>mt (m+8+i))):=hho;have sO:Hid ((x k).ob.hn≠0->hb k<w.1.size):=hhl;clear hho hhl;have q0:=((RR.out.below b0 hgw).cell (k*9) Za).trans (congrArg some A0.out);have q1:=((RR.out.below b0 hgw).cell (k*9+1) Za).trans (congrArg some A1.out);have z1:=b0.size;have qq2:=((RR.out.below b0 hgw).cell (k*9+2) Za).trans (congrArg some A2.out);have y2:=Aj qq2 (by show g<_;omega);have hne1:Nonempty (GW wr):=⟨⟨_,Ak _ _⟩⟩;go_wp2;refine Ay Zc Zc ?_;repeat(go_big_quiet_step((go_at_call 107;go_must(exact AY (BI _ (m+2) Za _ Za Za)))))
   refine wpQuiet_nil ?_;rintro w1⟨u,hu⟩;have c1:Below wr.1.size wr w1:=hu▸u.prop;have b1:=b0.trans (c1.mono Za);clear hu u hne1 qq2 y2 c1 q0 q1;have z2:=b1.size;have qq3:=((RR.out.below b1 hgw).cell (k*9+3) Za).trans (congrArg some A3.out);have y3:=Aj qq3 (by show g<_;omega);have hne2:Nonempty (GW w1):=⟨⟨_,Ak _ _⟩⟩;go_wp2;refine Ay Zc Zc ?_;repeat(go_big_quiet_step((go_at_call 107;go_must(exact AY (BI _ (m+3) Za _ Za Za)))))
   refine wpQuiet_nil ?_;rintro w2⟨u,hu⟩;have c2:Below w1.1.size w1 w2:=hu▸u.prop;have b2:=b1.trans (c2.mono Za);clear hu u hne2 qq3 y3 c2;have q4:=((RR.out.below b2 hgw).cell (k*9+4) Za).trans (congrArg some A4.out);have q5:=((RR.out.below b2 hgw).cell (k*9+5) Za).trans (congrArg some A5.out);have z3:=b2.size;have qq6:=((RR.out.below b2 hgw).cell (k*9+6) Za).trans (congrArg some A6.out);have y6:=Aj qq6 (by show g<_;omega);have hne3:Nonempty (GW w2):=⟨⟨_,Ak _ _⟩⟩;go_wp2;refine Ay Zc Zc ?_;repeat(go_big_quiet_step((go_at_call 107;go_must(exact AY (BI _ (m+6) Za _ Za Za)))))
   refine wpQuiet_nil ?_;rintro w3⟨u,hu⟩;have c3:Below w2.1.size w2 w3:=hu▸u.prop;have b3:=b2.trans (c3.mono Za);clear hu u hne3 qq6 y6 c3 q4 q5;have q7:=((RR.out.below b3 hgw).cell (k*9+7) Za).trans (congrArg some A7.out);have q8:=((RR.out.below b3 hgw).cell (k*9+8) Za).trans (congrArg some A8.out);have zl:=b3.size;go_wp2_with fail;refine(Mu (x k).ob.hn (A k) (C k) _ (m+8) Za _ (hb k) (λh0=>(by have:=sO h0;omega)) Za Za Za (oP.frP (Aq (P:=λ_=>False) b3) (λh0=>⟨λh=>h,sO h0⟩))).mono ?_;rintro e w9⟨rfl,c9⟩;have b9:=b3.trans (c9.mono Za);clear q8 q7 c9;go_wp2;go_roundw;case rel=>exact⟨k+1,Za,by go_num,by rw[HM.out];apply congrArg;omega,b9⟩
   case measure=>simp[intOf];omega
  .have:k=n:=Za;subst this;go_wp2;go_ret;exact⟨rfl,b0⟩
def mX (c:Nat->Value)(i:Nat)(y:Ti):Prop:=c (i*5)=.s y.client/\c (i*5+1)=.i y.num/\c (i*5+2)=.s y.print/\c (i*5+3)=.i y.code/\c (i*5+4)=.i y.ver
theorem Kx{c:Nat->Value}{i:Nat}{y:Ti}(h:mX c i y){k o:Nat}(hik:¬i=k)(h1:k*5<=o)(h2:o<k*5+5)(v:Value):mX (D9 c o v) i y:=by obtain⟨a0,a1,a2,a3,a4⟩:=h;exact⟨(if_neg Za).trans a0,(if_neg Za).trans a1,(if_neg Za).trans a2,(if_neg Za).trans a3,(if_neg Za).trans a4⟩
def Xh (m:Nat)(_:Ti):Ti:=⟨mt m,(m:Int)+1,mt (m+2),(m:Int)+3,(m:Int)+4⟩
def C5 (k0:Nat)(x:Nat->Ti):Nat->Nat|0=>k0|n+1=>C5 k0 x n+5
theorem Ik (k0:Nat)(x:Nat->Ti){k n:Nat}(h:k<=n):C5 k0 x k<=C5 k0 x n:=by induction n with
 |zero=>have:k=0:=Za;subst this;exact Aw _
 |succ m ih=>
   rcases As m k with h1|h1;.have:k=m+1:=Za;subst this;exact Aw _
   .exact AA (ih h1) (by simp only[C5];omega)
theorem Nf (k0:Nat)(x:Nat->Ti)(k:Nat)(h:1<=k0):1<=C5 k0 x k:=AA h (Ik k0 x (Ap k))
def RY (k0:Nat)(x:Nat->Ti)(k i:Nat):Ti:=if i<k then Xh (C5 k0 x i) (x i)else x i
theorem XQ (k0:Nat)(x:Nat->Ti):RY k0 x 0=x:=funext λi=>if_neg (Al i)
theorem Wf{k0:Nat}{x:Nat->Ti}{k i:Nat}(h:i<k):RY k0 x k i=Xh (C5 k0 x i) (x i):=if_pos h
theorem lR{k0:Nat}{x:Nat->Ti}{k i:Nat}(h:¬i=k):RY k0 x (k+1) i=RY k0 x k i:=by unfold RY;exact U0
structure Gn (w:World)(ad:OA)(g n:Nat)(x:Nat->Ti):Prop where
 addr:0<n->ad=some ⟨g,0,none⟩row:0<n->∃c,AH w g (n*5) c/\∀i,i<n->mX c i (x i)
theorem Gn.fr{w w':World}{ad:OA}{g n:Nat}{x:Nat->Ti}{P:Nat->Prop}(h:Gn w ad g n x)(hf:AP P w w')(hp:∀k,(λk=>0<n/\k=g) k->¬P k):Gn w' ad g n x:=⟨h.addr,λh0=>by obtain⟨c,r,e⟩:=h.row h0;exact⟨c,r.fr hf (hp g (⟨h0,rfl⟩)),e⟩⟩
theorem Gn.grow{w w':World}{ad:OA}{g n:Nat}{x:Nat->Ti}(h:Gn w ad g n x)(hf:Below w.1.size w w'):Gn w' ad g n x:=h.fr (Aq (P:=λ_=>False) hf) (λ_ _ h=>h)
theorem Tl (ad:OA)(g n:Nat)(x:Nat->Ti)(cap k0:Nat)(w:World)(hl:(n:Int)<=1048576)(hk1:1<=(k0:Int))(hk2:(C5 k0 x n:Int)<=1073741824)(hc:Gn w ad g n x):Calls prog 50 #[.l ad n cap,.i k0] w λe w'=>e=.returned (.i (C5 k0 x n))/\Gn w' ad g n (RY k0 x n)/\AP (λk=>0<n/\k=g) w w':=by
 go_enter func50,ntmps50;go_wp2;go_loopw[1,5](λt i wr=>∃k:Nat,k<=n/\i=.i k/\t=.i (C5 k0 x k)/\AP (λk=>0<n/\k=g) w wr/\Gn wr ad g n (RY k0 x k))(λ_ i _=>n-(intOf i).toNat);case atStart=>exact⟨0,Ap _,rfl,rfl,AP.refl _ _,by rw[XQ];exact hc⟩
 case round=>
  obtain⟨k,hk,rfl,rfl,hfr,ho⟩:=hrel;clear hc;by_cases hkn:k<n
  .have hmo:=Ik k0 x (k:=k+1) (n:=n) Za;have hm1:=Nf k0 x k Za;have hms:C5 k0 x (k+1)=C5 k0 x k+5:=rfl;have HM:Hid (C5 k0 x (k+1)=C5 k0 x k+5):=hms;have hm:C5 k0 x k+5<=1073741824:=Za;clear hmo hms;obtain⟨m,hme⟩:∃m,C5 k0 x k=m:=⟨_,rfl⟩;rw[hme]at hm1 hm HM⊢;have YZ:=Ai hme;clear hme;obtain rfl:=ho.addr Za;obtain⟨c,r0,hat⟩:=ho.row Za;have HO:=Ai ho;have KO:=Ai hat;have hfr':=Ai hfr;clear ho hat hfr;have f0:AP (λq=>q=g) wr wr:=AP.refl _ _;go_wp2_with fail;refine(BI _ (m+0) Za _ Za Za).mono ?_;rintro e w1⟨rfl,b1⟩;have r1:=r0.below b1 tP;have f1:=f0.trans (Aq b1);clear r0 f0 b1;have q0:=r1.cell (k*5) Za;have q1:=r1.cell (k*5+1) Za;have qf1:=r1.free;go_wp2_with fail;refine(BI _ (m+2) Za _ Za Za).mono ?_;rintro e w2⟨rfl,b2⟩;have r2:=((r1.set (o:=k*5) Za _).set (o:=k*5+1) Za _).below b2 tN;have f2:=((f1.setCell (p:=⟨g,k*5,none⟩) rfl _).setCell (p:=⟨g,k*5+1,none⟩) rfl _).trans (Aq b2);clear q0 q1 qf1 r1 f1 b2;have q2:=r2.cell (k*5+2) Za;have q3:=r2.cell (k*5+3) Za;have q4:=r2.cell (k*5+4) Za;have qf2:=r2.free;go_wp2;go_roundw;case rel=>
    refine⟨k+1,Za,by go_num,by rw[HM.out];apply congrArg;omega,hfr'.out.trans (AP.mono (((f2.setCell (p:=⟨g,k*5+2,none⟩) rfl _).setCell (p:=⟨g,k*5+3,none⟩) rfl _).setCell (p:=⟨g,k*5+4,none⟩) rfl _) (λq hq=>⟨Za,hq⟩)),λ_=>rfl,λ_=>⟨_,(((r2.set (o:=k*5+2) Za _).set (o:=k*5+3) Za _).set (o:=k*5+4) Za _),λi hi=>?_⟩⟩;by_cases e:i=k;.subst e;rw[Wf (Bp i),YZ.out];refine⟨?_,?_,?_,?_,?_⟩;all_goals first|(simp[D9,Xh];done)|(simp[D9,Xh];omega)|(simp[D9,Xh];exact TX Za)
    .rw[lR e];exact(Kx (Kx (Kx (Kx (Kx (KO i hi) e (k:=k) Za Za _) e (k:=k) Za Za _) e (k:=k) Za Za _) e (k:=k) Za Za _) e (k:=k) Za Za _)
   case measure=>simp[intOf];omega
  .exact Vt
theorem SW (ad:OA)(g n:Nat)(x:Nat->Ti)(cap k0:Nat)(w:World)(hl:(n:Int)<=1048576)(hk1:1<=(k0:Int))(hk2:(C5 k0 x n:Int)<=1073741824)(hc:Gn w ad g n (RY k0 x n)):Calls prog 66 #[.l ad n cap,.i k0] w λe w'=>e=.returned (.i (C5 k0 x n))/\Below w.1.size w w':=by
 have HO:=Ai hc;clear hc;go_enter func66,ntmps66;go_wp2;go_loopw[1,5](λt i wr=>∃k:Nat,k<=n/\i=.i k/\t=.i (C5 k0 x k)/\Below w.1.size w wr)(λ_ i _=>n-(intOf i).toNat);case atStart=>exact⟨0,Ap _,rfl,rfl,Ak _ _⟩
 case round=>
  obtain⟨k,hk,rfl,rfl,b0⟩:=hrel;by_cases hkn:k<n
  .have hmo:=Ik k0 x (k:=k+1) (n:=n) Za;have hm1:=Nf k0 x k Za;have hms:C5 k0 x (k+1)=C5 k0 x k+5:=rfl;have HM:Hid (C5 k0 x (k+1)=C5 k0 x k+5):=hms;have hm:C5 k0 x k+5<=1073741824:=Za;clear hmo hms;have hadr:=HO.addr Za;obtain⟨c,rr,hat⟩:=HO.row Za;have hak:=hat k hkn;rw[Wf hkn]at hak;obtain⟨m,hme⟩:∃m,C5 k0 x k=m:=⟨_,rfl⟩;rw[hme]at hm1 hm HM hak⊢;clear hme hat;subst hadr;obtain⟨a0,a1,a2,a3,a4⟩:=hak;replace a0:c (k*5)=.s (mt m):=a0;replace a1:c (k*5+1)=.i ((m:Int)+1):=a1.trans xL;replace a2:c (k*5+2)=.s (mt (m+2)):=a2;replace a3:c (k*5+3)=.i ((m:Int)+1+1+1):=a3.trans xL;replace a4:c (k*5+4)=.i ((m:Int)+1+1+1+1):=a4.trans xL;have A0:=Ai a0;have A1:=Ai a1;have A2:=Ai a2;have A3:=Ai a3;have A4:=Ai a4;have RR:=Ai rr;have hgw:=rr.lt;clear rr a0 a1 a2 a3 a4;have z1:=b0.size;have qq0:=((RR.out.below b0 hgw).cell (k*5) Za).trans (congrArg some A0.out);have y0:=Aj qq0 (by show g<_;omega);have hne1:Nonempty (GW wr):=⟨⟨_,Ak _ _⟩⟩;go_wp2;refine Ay Zc Zc ?_;repeat(go_big_quiet_step((go_at_call 107;go_must(exact AY (BI _ (m+0) Za _ Za Za)))))
   refine wpQuiet_nil ?_;rintro w1⟨u,hu⟩;have c1:Below wr.1.size wr w1:=hu▸u.prop;have b1:=b0.trans (c1.mono Za);clear hu u hne1 qq0 y0 c1;have q1:=((RR.out.below b1 hgw).cell (k*5+1) Za).trans (congrArg some A1.out);have z2:=b1.size;have qq2:=((RR.out.below b1 hgw).cell (k*5+2) Za).trans (congrArg some A2.out);have y2:=Aj qq2 (by show g<_;omega);have hne2:Nonempty (GW w1):=⟨⟨_,Ak _ _⟩⟩;go_wp2;refine Ay Zc Zc ?_;repeat(go_big_quiet_step((go_at_call 107;go_must(exact AY (BI _ (m+2) Za _ Za Za)))))
   refine wpQuiet_nil ?_;rintro w2⟨u,hu⟩;have c2:Below w1.1.size w1 w2:=hu▸u.prop;have b2:=b1.trans (c2.mono Za);clear hu u hne2 qq2 y2 c2 q1;have q3:=((RR.out.below b2 hgw).cell (k*5+3) Za).trans (congrArg some A3.out);have q4:=((RR.out.below b2 hgw).cell (k*5+4) Za).trans (congrArg some A4.out);go_wp2;go_roundw;case rel=>exact⟨k+1,Za,by go_num,by rw[HM.out];apply congrArg;omega,b2⟩
   case measure=>simp[intOf];omega
  .have:k=n:=Za;subst this;go_wp2;go_ret;exact⟨rfl,b0⟩
theorem D5.blt{w:World}{ad:OA}{g n:Nat}{x:Nat->Ob}{A:Nat->Option Addr}{C hb:Nat->Nat}(h:D5 w ad g n x A C hb){k:Nat}(hk:GA g n (λi=>(x i).hn) hb k):k<w.1.size:=by
 rcases hk with⟨h0,rfl⟩|⟨i,hi,h0,rfl⟩;.obtain⟨c,r,_⟩:=h.row h0;exact r.lt
 .exact h.hlt i hi h0
theorem EG.blt{w:World}{ad:OA}{g n:Nat}{x:Nat->Ch}{A:Nat->Option Addr}{C hb:Nat->Nat}(h:EG w ad g n x A C hb){k:Nat}(hk:GA g n (λi=>(x i).ob.hn) hb k):k<w.1.size:=by
 rcases hk with⟨h0,rfl⟩|⟨i,hi,h0,rfl⟩;.obtain⟨c,r,_⟩:=h.row h0;exact r.lt
 .exact h.hlt i hi h0
theorem Gn.blt{w:World}{ad:OA}{g n:Nat}{x:Nat->Ti}(h:Gn w ad g n x){k:Nat}(hk:0<n/\k=g):k<w.1.size:=by obtain⟨h0,rfl⟩:=hk;obtain⟨c,r,_⟩:=h.row h0;exact r.lt
structure Pl where
 a1:Option Addr
 a2:Option Addr
 a3:Option Addr
 g1:Nat
 g2:Nat
 g3:Nat
 A1:Nat->Option Addr
 C1:Nat->Nat
 h1:Nat->Nat
 A2:Nat->Option Addr
 C2:Nat->Nat
 h2:Nat->Nat
def Qn (p:Pl)(x:Bk)(k:Nat):Prop:=GA p.g1 x.on (λi=>(x.os i).hn) p.h1 k
def Vu (p:Pl)(x:Bk)(k:Nat):Prop:=GA p.g2 x.hn (λi=>(x.hs i).ob.hn) p.h2 k
def fL (p:Pl)(x:Bk)(k:Nat):Prop:=0<x.tn/\k=p.g3
def DS (p:Pl)(x:Bk)(k:Nat):Prop:=Qn p x k\/(Vu p x k\/fL p x k)
structure CZ (w:World)(x:Bk)(p:Pl):Prop where
 o:D5 w p.a1 p.g1 x.on x.os p.A1 p.C1 p.h1
 h:EG w p.a2 p.g2 x.hn x.hs p.A2 p.C2 p.h2
 t:Gn w p.a3 p.g3 x.tn x.ts
 d12:∀k,Qn p x k->¬Vu p x k
 d13:∀k,Qn p x k->¬fL p x k
 d23:∀k,Vu p x k->¬fL p x k
theorem CZ.blt{w:World}{x:Bk}{p:Pl}(h:CZ w x p){k:Nat}(hk:DS p x k):k<w.1.size:=by
 rcases hk with h1|h1|h1;.exact h.o.blt h1
 .exact h.h.blt h1
 .exact h.t.blt h1
theorem CZ.fr{w w':World}{x:Bk}{p:Pl}{P:Nat->Prop}(h:CZ w x p)(hf:AP P w w')(hp:∀k,DS p x k->¬P k):CZ w' x p:=⟨h.o.fr hf (λk hk=>hp k (AD hk)),h.h.fr hf (λk hk=>hp k (Ax (AD hk))),h.t.fr hf (λk hk=>hp k (Ax (Ax hk))),h.d12,h.d13,h.d23⟩
theorem CZ.grow{w w':World}{x:Bk}{p:Pl}(h:CZ w x p)(hf:Below w.1.size w w'):CZ w' x p:=h.fr (Aq (P:=λ_=>False) hf) (λ_ _ h=>h)
def LO (k0:Nat)(x:Bk):Nat:=C5 (Cy (Ci k0 x.os x.on) x.hs x.hn) x.ts x.tn
def K0 (k0:Nat)(x:Bk):Bk:={x with os:=Kt k0 x.os x.on,hs:=Kk (Ci k0 x.os x.on) x.hs x.hn,ts:=RY (Cy (Ci k0 x.os x.on) x.hs x.hn) x.ts x.tn}
theorem Rl (p:Pl)(k0:Nat)(x:Bk):Qn p (K0 k0 x)=Qn p x:=by unfold Qn K0;simp only[F8]
theorem Sr (p:Pl)(k0:Nat)(x:Bk):Vu p (K0 k0 x)=Vu p x:=by unfold Vu K0;simp only[GK]
theorem Rh (p:Pl)(k0:Nat)(x:Bk):fL p (K0 k0 x)=fL p x:=rfl
theorem OQ (p:Pl)(k0:Nat)(x:Bk):DS p (K0 k0 x)=DS p x:=by unfold DS;rw[Rl,Sr,Rh]
theorem O8 (x:Bk)(p:Pl)(c1 c2 c3 k0:Nat)(w:World)(l1:(x.on:Int)<=1048576)(l2:(x.hn:Int)<=1048576)(l3:(x.tn:Int)<=1048576)(hk1:1<=(k0:Int))(hk2:(LO k0 x:Int)<=1073741824)(hc:CZ w x p):Calls prog 14 #[.agg (vB x p.a1 p.a2 p.a3 c1 c2 c3),.i k0] w λe w'=>e=.returned (.i (LO k0 x))/\CZ w' (K0 k0 x) p/\AP (DS p x) w w':=by
 have m1:=Jn k0 x.os x.on Za;have m2:=Jp (Ci k0 x.os x.on) x.hs x.hn m1;have n2:=Ij (Ci k0 x.os x.on) x.hs (Ap x.hn);have n3:=Ik (Cy (Ci k0 x.os x.on) x.hs x.hn) x.ts (Ap x.tn);have hk3:(C5 (Cy (Ci k0 x.os x.on) x.hs x.hn) x.ts x.tn:Int)<=1073741824:=hk2;simp only[Cy,C5]at n2 n3;have HC:=Ai hc;have hA:=Ai (hc.grow (Ae w (.cells (vB x p.a1 p.a2 p.a3 c1 c2 c3) 35)));clear hc hk2;go_enter func14,ntmps14;go_wp2_with fail;refine(SY p.a1 p.g1 x.on x.os p.A1 p.C1 p.h1 c1 k0 _ l1 hk1 Za hA.o).mono ?_;rintro e w1⟨rfl,o1,f1⟩;have q3:w1.cell? ⟨w.1.size,3,none⟩=some (.slice p.a2 x.hn c2):=(f1.cell (p:=⟨w.1.size,3,none⟩) Ze (λh=>Bt _ (HC.o.blt h))).trans (At _ _ _ _);have q4:w1.cell? ⟨w.1.size,4,none⟩=some (.slice p.a3 x.tn c3):=(f1.cell (p:=⟨w.1.size,4,none⟩) Ze (λh=>Bt _ (HC.o.blt h))).trans (At _ _ _ _);have O1:=Ai o1;have F1:=Ai f1;have H1:=Ai (hA.h.fr f1 (λk h2 h1=>HC.d12 k h1 h2));have T1:=Ai (hA.t.fr f1 (λk h2 h1=>HC.d13 k h1 h2));have z1:w.1.size<w1.1.size:=by have:=f1.size;simp at this;omega
 clear o1 f1 hA;go_wp2_with fail;refine(Tv p.a2 p.g2 x.hn x.hs p.A2 p.C2 p.h2 c2 (Ci k0 x.os x.on) _ l2 Za Za H1).mono ?_;rintro e w2⟨rfl,o2,f2⟩;have r4:=(f2.cell (p:=⟨w.1.size,4,none⟩) z1 (λh=>Bt _ (HC.h.blt h))).trans q4;have O2:=Ai o2;have F2:=Ai f2;have O1':=Ai (O1.fr f2 (λk h1 h2=>HC.d12 k (by have:=h1;simp only[F8]at this;exact this) h2));have T2:=Ai (T1.fr f2 (λk h2 h1=>HC.d23 k h1 h2));clear o2 f2 q3 q4 O1 T1 H1;go_wp2_with fail;refine(Tl p.a3 p.g3 x.tn x.ts c3 (Cy (Ci k0 x.os x.on) x.hs x.hn) _ l3 Za hk3 T2).mono ?_;rintro e w3⟨rfl,o3,f3⟩;have O3:=Ai o3;have F3:=Ai f3;clear o3 f3 r4;go_wp2;go_ret;have d1:=HC.d12;have d2:=HC.d13;have d3:=HC.d23;refine⟨rfl,⟨O1'.fr F3 (λk h1 h2=>d2 k (by have:=h1;simp only[F8]at this;exact this) h2),O2.fr F3 (λk h1 h2=>d3 k (by have:=h1;simp only[GK]at this;exact this) h2),O3,by rw[Rl,Sr];exact d1,by rw[Rl,Rh];exact d2,by rw[Sr,Rh];exact d3⟩,?_⟩;exact((Aq (Ae w _)).trans (F1.mono (λk h=>AD h))).trans ((F2.mono (λk h=>Ax (AD h))).trans (F3.mono (λk h=>Ax (Ax h))))
theorem PN (x:Bk)(p:Pl)(c1 c2 c3 k0:Nat)(w:World)(l1:(x.on:Int)<=1048576)(l2:(x.hn:Int)<=1048576)(l3:(x.tn:Int)<=1048576)(hk1:1<=(k0:Int))(hk2:(LO k0 x:Int)<=1073741824)(no fl:Int)(hc:CZ w (K0 k0 x) p):Calls prog 30 #[.agg #[.i no,.i fl,.l p.a1 x.on c1,.l p.a2 x.hn c2,.l p.a3 x.tn c3],.i k0] w λe w'=>e=.returned (.i (LO k0 x))/\Below w.1.size w w':=by
 have m1:=Jn k0 x.os x.on Za;have m2:=Jp (Ci k0 x.os x.on) x.hs x.hn m1;have m3:=Nf (Cy (Ci k0 x.os x.on) x.hs x.hn) x.ts x.tn m2;have n2:=Ij (Ci k0 x.os x.on) x.hs (Ap x.hn);have n3:=Ik (Cy (Ci k0 x.os x.on) x.hs x.hn) x.ts (Ap x.tn);have hk3:(C5 (Cy (Ci k0 x.os x.on) x.hs x.hn) x.ts x.tn:Int)<=1073741824:=hk2;simp only[Cy,C5]at n2 n3;have hA:=Ai (hc.grow (Ae w (.cells #[.i no,.i fl,.l p.a1 x.on c1,.l p.a2 x.hn c2,.l p.a3 x.tn c3] 35)));clear hc hk2;go_enter func30,ntmps30;go_wp2_with fail;refine(Tz p.a1 p.g1 x.on x.os p.A1 p.C1 p.h1 c1 k0 _ l1 hk1 Za hA.o).mono ?_;rintro e w1⟨rfl,b1⟩;have q3:=Au b1 3;have q4:=Au b1 4;simp only[Ah,Ad,Ab]at q3 q4;have z1:w.1.size<w1.1.size:=by have:=b1.size;simp at this;omega
 have H1:=Ai (hA.h.grow b1);have T1:=Ai (hA.t.grow b1);have B1:Below w.1.size w w1:=(Ae _ _).trans (b1.mono Ze);clear b1 hA;go_wp2_with fail;refine(Tt p.a2 p.g2 x.hn x.hs p.A2 p.C2 p.h2 c2 (Ci k0 x.os x.on) _ l2 Za Za H1).mono ?_;rintro e w2⟨rfl,b2⟩;have r4:=(b2.cell (p:=⟨w.1.size,4,none⟩) z1).trans q4;have T2:=Ai (T1.grow b2);have B2:=B1.trans (b2.mono B1.size);clear b2 q3 q4 T1 H1;go_wp2_with fail;refine(SW p.a3 p.g3 x.tn x.ts c3 (Cy (Ci k0 x.os x.on) x.hs x.hn) _ l3 Za hk3 T2).mono ?_;rintro e w3⟨rfl,b3⟩;have B3:=B2.trans (b3.mono B2.size);clear b3 r4;go_wp2;go_ret;exact⟨rfl,B3⟩
def IK (n:Nat)(ad:OA)(cap:Nat):Prop:=n<=cap/\(ad=none->cap=0)/\(n=0->ad=none)
theorem GH{P:Program}(w:World)(dT sT ty elem:TypeId)(b o dLen dCap:Nat)(a:Addr)(sLen sCap z:Nat)(cs:List Value)(hu:P.underlying dT=some (.slice elem))(hs:(P.info? elem).map (·.size)=some z)(hn:cs.length=Nat.min sLen dLen*z)(hsrc:∀j v,cs[j]?=some v->w.cell? (a.add j)=some v)(hc:∀j,j<cs.length->(w.cell? ⟨b,o+j,none⟩).isSome=true)(hf:∀j,j<cs.length->w.frozen? ⟨b,o+j,none⟩=false)(h1:∀v∈cs,v.oneCell'=true):(Builtin.copy_ #[dT,sT] ty #[.l (some ⟨b,o,none⟩) dLen dCap,.l (some a) sLen sCap]).run P w=.ok (goInt (Nat.min sLen dLen)) (w.setCells b o cs):=by have hl:=run_loadCells_list (P:=P) w a cs hsrc;have hst:=run_storeCells_cells (P:=P) b o cs 0 w (by simpa using hc) (by simpa using hf) h1;cases hq:P.info? elem with
 |none=>simp[hq]at hs
 |some i=>
  have hi:i.size=z:=by simpa[hq]using hs
  simp[Builtin.copy_,run_underlying hu,Builtin.lenOf,Builtin.firstCells,sizeOf,typeInfo,hq,hi,<-hn,hl,hst]
structure BP (w:World)(lo hi:Nat)(ad:OA)(m:Nat)(c:Nat->Value):Prop where
 at_:∀j,j<m->∃b off,ad=some ⟨b,off,none⟩/\lo<=b/\b<hi/\w.cell? ⟨b,off+j,none⟩=some (c j)one:∀j,j<m->(c j).oneCell'=true
def AI (m:Nat)(c:Nat->Value):List Value:=(List.range m).map c
theorem Bl (m:Nat)(c:Nat->Value):(AI m c).length=m:=by simp[AI]
theorem Gd{m:Nat}{c:Nat->Value}{j:Nat}{u:Value}(h:(AI m c)[j]?=some u):j<m/\u=c j:=by
 simp only[AI,List.getElem?_map]at h;rcases As j m with h1|h1;.rw[BK (by simpa using h1)]at h;simp at h;exact⟨h1,h.symm⟩
 .rw[CL (by simpa using h1)]at h;cases h
theorem Dd{m:Nat}{c:Nat->Value}{j:Nat}(h:j<(AI m c).length):(AI m c)[j]=c j:=by simp[AI]
theorem IS{w:World}{g m:Nat}(c:Nat->Value)(h:J7 w g m):AH (w.setCells g 0 (AI m c)) g m c:=⟨by rw[Dv];exact h.lt,λj=>by rw[World.frozen?_setCells];exact h.free j,λj hj=>by have:=CO g (AI m c) 0 w (λj hj=>by rw[Bl]at hj;obtain⟨u,hu⟩:=h.has j hj;rw[Bc,hu];rfl) j (by rw[Bl];exact hj);rw[Bc,Dd]at this;exact this⟩
theorem RO{P:Prop}(h:P:=by go_ret;exact⟨_,_,rfl,⟨Aw _,λh=>Qc,λh=>absurd h Za⟩,λ_=>⟨rfl,by simpa using R1.out⟩,by simpa using R2.below Bj Bj⟩):P:=h
theorem Rv{P:Prop}(h:P:=by go_wp2;go_ret;exact⟨_,_,rfl,⟨Aw _,λ_=>rfl,λ_=>rfl⟩,λh=>absurd h (Bt _),Ak _ _⟩):P:=h
theorem TT (n:Nat)(c:Nat->Value)(ad:OA)(cap:Nat)(w:World)(lo hi:Nat)(hhi:hi<=w.1.size)(hl:(n:Int)<=1099511627776)(hc:BP w lo hi ad (n*7) c):Calls prog 149 #[.l ad n cap] w λe w'=>∃ad' cap',e=.returned (.l ad' n cap')/\IK n ad' cap'/\(0<n->ad'=some ⟨w.1.size,0,none⟩/\AH w' w.1.size (n*7) c)/\Below w.1.size w w':=by
 rcases AW n with h0|hpos;.subst h0;go_enter func149,ntmps149;exact Rv
 .obtain⟨i0,hi0,hz0,hz1,hz2⟩:=info_parts ET;obtain⟨b,off,rfl,hlo,hbh,_⟩:=hc.at_ 0 Za;have hne:((n:Int)==0)=false:=Zd;have hsz:(prog.info? 118).map (·.size)=some 7:=by rw[hi0];simp[hz1]
  have HC:=Ai hc;clear hc;go_enter func149,ntmps149;go_wp2_with (first
   |(at_make;refine wpList_make_full _ rfl _ _ 31 rfl w.1.size 118 i0 _ 7 underlying31 hi0 hz0 hz1 .i64 .i64 _ _ n rfl rfl Za Za Sx Zn Za ?_;intro w1 hown1 hgrow1;have hr1:=Ai (ES hown1);have hb1:Below w.1.size w w1:=(Ak _ _).grown hgrow1 Bj Ze;clear hown1 hgrow1;have hrun:=GH (P:=prog) w1 31 31 3 118 w.1.size 0 n n ⟨b,off,none⟩ n cap 7 (AI (n*7) c) underlying31 hsz (by rw[Bl];simp) Zq uL (by intro j _;exact hr1.free _) uF;have R1:=Ai (IS c hr1);have R2:=Ai ((DP (lo:=w.1.size) (hi:=w.1.size+1) hb1).trans (CR w.1.size (AI (n*7) c) 0 w1));clear hr1 HC));exact RO
theorem Tf (n:Nat)(c:Nat->Value)(ad:OA)(cap:Nat)(w:World)(lo hi:Nat)(hhi:hi<=w.1.size)(hl:(n:Int)<=1099511627776)(hc:BP w lo hi ad (n*9) c):Calls prog 93 #[.l ad n cap] w λe w'=>∃ad' cap',e=.returned (.l ad' n cap')/\IK n ad' cap'/\(0<n->ad'=some ⟨w.1.size,0,none⟩/\AH w' w.1.size (n*9) c)/\Below w.1.size w w':=by
 rcases AW n with h0|hpos;.subst h0;go_enter func93,ntmps93;exact Rv
 .obtain⟨i0,hi0,hz0,hz1,hz2⟩:=info_parts Eg;obtain⟨b,off,rfl,hlo,hbh,_⟩:=hc.at_ 0 Za;have hne:((n:Int)==0)=false:=Zd;have hsz:(prog.info? 120).map (·.size)=some 9:=by rw[hi0];simp[hz1]
  have HC:=Ai hc;clear hc;go_enter func93,ntmps93;go_wp2_with (first
   |(at_make;refine wpList_make_full _ rfl _ _ 32 rfl w.1.size 120 i0 _ 9 underlying32 hi0 hz0 hz1 .i64 .i64 _ _ n rfl rfl Za Za Sx Zn Za ?_;intro w1 hown1 hgrow1;have hr1:=Ai (ES hown1);have hb1:Below w.1.size w w1:=(Ak _ _).grown hgrow1 Bj Ze;clear hown1 hgrow1;have hrun:=GH (P:=prog) w1 32 32 3 120 w.1.size 0 n n ⟨b,off,none⟩ n cap 9 (AI (n*9) c) underlying32 hsz (by rw[Bl];simp) Zq uL (by intro j _;exact hr1.free _) uF;have R1:=Ai (IS c hr1);have R2:=Ai ((DP (lo:=w.1.size) (hi:=w.1.size+1) hb1).trans (CR w.1.size (AI (n*9) c) 0 w1));clear hr1 HC));exact RO
theorem TI (n:Nat)(c:Nat->Value)(ad:OA)(cap:Nat)(w:World)(lo hi:Nat)(hhi:hi<=w.1.size)(hl:(n:Int)<=1099511627776)(hc:BP w lo hi ad (n*5) c):Calls prog 95 #[.l ad n cap] w λe w'=>∃ad' cap',e=.returned (.l ad' n cap')/\IK n ad' cap'/\(0<n->ad'=some ⟨w.1.size,0,none⟩/\AH w' w.1.size (n*5) c)/\Below w.1.size w w':=by
 rcases AW n with h0|hpos;.subst h0;go_enter func95,ntmps95;exact Rv
 .obtain⟨i0,hi0,hz0,hz1,hz2⟩:=info_parts DO;obtain⟨b,off,rfl,hlo,hbh,_⟩:=hc.at_ 0 Za;have hne:((n:Int)==0)=false:=Zd;have hsz:(prog.info? 130).map (·.size)=some 5:=by rw[hi0];simp[hz1]
  have HC:=Ai hc;clear hc;go_enter func95,ntmps95;go_wp2_with (first
   |(at_make;refine wpList_make_full _ rfl _ _ 33 rfl w.1.size 130 i0 _ 5 underlying33 hi0 hz0 hz1 .i64 .i64 _ _ n rfl rfl Za Za Sx Zn Za ?_;intro w1 hown1 hgrow1;have hr1:=Ai (ES hown1);have hb1:Below w.1.size w w1:=(Ak _ _).grown hgrow1 Bj Ze;clear hown1 hgrow1;have hrun:=GH (P:=prog) w1 33 33 3 130 w.1.size 0 n n ⟨b,off,none⟩ n cap 5 (AI (n*5) c) underlying33 hsz (by rw[Bl];simp) Zq uL (by intro j _;exact hr1.free _) uF;have R1:=Ai (IS c hr1);have R2:=Ai ((DP (lo:=w.1.size) (hi:=w.1.size+1) hb1).trans (CR w.1.size (AI (n*5) c) 0 w1));clear hr1 HC));exact RO
theorem Ta (n:Nat)(c:Nat->Value)(ad:OA)(cap:Nat)(w:World)(lo hi:Nat)(hhi:hi<=w.1.size)(hl:(n:Int)<=8796093022208)(hc:BP w lo hi ad (n*1) c):Calls prog 181 #[.l ad n cap] w λe w'=>∃ad' cap',e=.returned (.l ad' n cap')/\IK n ad' cap'/\(0<n->ad'=some ⟨w.1.size,0,none⟩/\AH w' w.1.size (n*1) c)/\Below w.1.size w w':=by
 rcases AW n with h0|hpos;.subst h0;go_enter func181,ntmps181;exact Rv
 .obtain⟨i0,hi0,hz0,hz1,hz2⟩:=info_parts DZ;obtain⟨b,off,rfl,hlo,hbh,_⟩:=hc.at_ 0 Za;have hne:((n:Int)==0)=false:=Zd;have hsz:(prog.info? 9).map (·.size)=some 1:=by rw[hi0];simp[hz1]
  have HC:=Ai hc;clear hc;go_enter func181,ntmps181;go_wp2_with (first
   |(at_make;refine wpList_make_full _ rfl _ _ 108 rfl w.1.size 9 i0 _ 1 underlying108 hi0 hz0 hz1 .i64 .i64 _ _ n rfl rfl Za Za Sx Zn Za ?_;intro w1 hown1 hgrow1;have hr1:=Ai (ES hown1);have hb1:Below w.1.size w w1:=(Ak _ _).grown hgrow1 Bj Ze;clear hown1 hgrow1;have hrun:=GH (P:=prog) w1 108 108 3 9 w.1.size 0 n n ⟨b,off,none⟩ n cap 1 (AI (n*1) c) underlying108 hsz (by rw[Bl];simp) Zq uL (by intro j _;exact hr1.free _) uF;have R1:=Ai (IS c hr1);have R2:=Ai ((DP (lo:=w.1.size) (hi:=w.1.size+1) hb1).trans (CR w.1.size (AI (n*1) c) 0 w1));clear hr1 HC));exact RO
theorem AB.src{w:World}{lo hi:Nat}{ad:OA}{n:Nat}{s:Nat->ByteArray}(h:AB w lo hi ad n s):BP w lo hi ad (n*1) (λj=>.s (s j)):=⟨λj hj=>h j Za,λ_ _=>rfl⟩
theorem AH.strs{w:World}{g n:Nat}{s:Nat->ByteArray}(h:AH w g (n*1) (λj=>.s (s j))):AV w g (g+1) (some ⟨g,0,none⟩) n s:=λi hi=>⟨g,0,rfl,Aw _,Bp _,by rw[Bc];exact h.cell i Za,by rw[Bc];exact h.free i⟩
theorem AV.zero{w:World}{b:Nat}{ad:OA}{s:Nat->ByteArray}:AV w b (b+1) ad 0 s:=λ_ hi=>absurd hi (Al _)
theorem S0 (n:Nat)(s:Nat->ByteArray)(ad:OA)(cap:Nat)(w:World)(lo hi:Nat)(hhi:hi<=w.1.size)(hl:(n:Int)<=8796093022208)(hc:AB w lo hi ad n s):Calls prog 181 #[.l ad n cap] w λe w'=>∃ad' cap',e=.returned (.l ad' n cap')/\IK n ad' cap'/\AV w' w.1.size (w.1.size+1) ad' n s/\(n≠0->w.1.size<w'.1.size)/\Below w.1.size w w':=(Ta n _ ad cap w lo hi hhi hl hc.src).mono λe w'⟨ad',cap',h1,hq,h2,h3⟩=>by
  refine⟨ad',cap',h1,hq,?_,λh0=>(h2 Za).2.lt,h3⟩;by_cases h0:n=0;.subst h0;exact AV.zero
  .obtain⟨rfl,r⟩:=h2 Za;exact r.strs
theorem QZ{w w1:World}{c0 c1:Array Value}{t0 t1:TypeId}(hb:Below ((w.alloc (.cells c0 t0)).alloc (.cells c1 t1)).1.size ((w.alloc (.cells c0 t0)).alloc (.cells c1 t1)) w1):(∀i,w1.cell? ⟨w.1.size,i,none⟩=c0[i]?)/\(∀i,w1.cell? ⟨w.1.size+1,i,none⟩=c1[i]?)/\(∀i,w1.frozen? ⟨w.1.size,i,none⟩=false)/\(∀i,w1.frozen? ⟨w.1.size+1,i,none⟩=false):=by
 refine⟨λi=>?_,λi=>?_,λi=>?_,λi=>?_⟩;.rw[hb.cell (p:=⟨w.1.size,i,none⟩) Zd,Ar _ _ _ Ze,At]
 .rw[hb.cell (p:=⟨w.1.size+1,i,none⟩) Ze];have:=At (w.alloc (.cells c0 t0)) c1 t1 i;rwa[AE]at this
 .rw[hb.frozen (p:=⟨w.1.size,i,none⟩) Zd];simp
 .rw[hb.frozen (p:=⟨w.1.size+1,i,none⟩) Ze];simp
theorem LU (x:Ob)(ad:OA)(cap:Nat)(w:World)(lo hi:Nat)(hhi:hi<=w.1.size)(hl:(x.hn:Int)<=8796093022208)(hc:AB w lo hi ad x.hn x.hs):Calls prog 150 #[.agg (vO x ad cap)] w λe w'=>∃ad' cap' b,e=.returned (.agg (vO x ad' cap'))/\IK x.hn ad' cap'/\w.1.size<=b/\(x.hn≠0->b<w'.1.size)/\AV w' b (b+1) ad' x.hn x.hs/\Below w.1.size w w':=by
 go_enter func150,ntmps150;go_wp2_with fail;refine(S0 x.hn x.hs ad cap _ lo hi Zd Za (hc.below (B:=w.1.size) (((Ak _ _).alloc Bj _).alloc Ze _) hhi)).mono ?_;rintro e w1⟨ad',cap',rfl,hcp,hown,hlt,hb1⟩;have hbW:Below w.1.size w w1:=(((Ak _ _).alloc Bj _).alloc Ze _).trans (hb1.mono Zd);have hz:w.1.size+1<w1.1.size:=by have:=hb1.size;simp at this;omega
 obtain⟨A0,A1,F0,F1⟩:=QZ hb1;have p0:=A0 0;have p1:=A0 1;have p2:=A0 2;have p3:=A0 3;have p4:=A0 4;have p5:=A0 5;have p6:=A0 6;have q0:=A1 0;have q1:=A1 1;have q2:=A1 2;have q3:=A1 3;have q4:=A1 4;have q5:=A1 5;have q6:=A1 6;simp only[Ah,Ad,Ab]at p0 p1 p2 p3 p4 p5 p6 q0 q1 q2 q3 q4 q5 q6;simp only[AE]at hown hlt;have HO:=Ai hown;have sX:=Ai hcp;have HL:=Ai hlt;clear A0 A1 hb1 hc hown hlt hcp;go_wp2;refine bodyPost_ret (v:=.agg (vO x ad' cap')) (by simp[results,results150,go_sem,q0,q1,q2,q3,q4,q5,q6]) rfl ⟨ad',cap',w.1.size+1+1,rfl,sX,Za,λh0=>?_,?_,?_⟩;.simp only[Az];exact HL h0
 .refine AV.frP (P:=λq=>q=w.1.size\/q=w.1.size+1) HO ?_ (λh0=>⟨Za,HL h0⟩);iterate 8 refine AP.setCell ?_ Ze _
  exact AP.refl _ _
 .iterate 8 refine AJ ?_ Ze _
  exact hbW
theorem Io{P:Nat->Prop}{a w:World}(h:AP P a w){p:Addr}(hp:a.1.size<=p.block\/P p.block)(u:Value):AP P a (w.setCell p u):=⟨h.os,h.tape,h.output,by rw[Az];exact h.size,λk hk ho=>(Below.heap_setCell _ _ _ _ (λe=>by
  rcases hp with hp|hp;.rw[<-e]at hp;omega
  .exact ho (e▸hp))).trans (h.block k hk ho)⟩
def EQ{α:Type}(f:Nat->α)(k:Nat)(v:α):Nat->α:=λi=>if i=k then v else f i
theorem BT{α:Type}(f:Nat->α)(k:Nat)(v:α):EQ f k v k=v:=if_pos rfl
theorem Cr{α:Type}(f:Nat->α){k i:Nat}(v:α)(h:¬i=k):EQ f k v i=f i:=if_neg h
structure LC (w:World)(g n k:Nat)(x:Nat->Ob)(A0 A:Nat->Option Addr)(C hb:Nat->Nat):Prop where
 row:0<n->∃c,AH w g (n*7) c/\∀i,i<n->RE c i (x i) (A i) (C i)src:∀i,k<=i->i<n->A i=A0 i
 hold:∀i,i<k->AV w (hb i) (hb i+1) (A i) (x i).hn (x i).hs
 hlt:∀i,i<k->(x i).hn≠0->g<hb i/\hb i<w.1.size
 inj:∀i j,i<k->j<k->(x i).hn≠0->(x j).hn≠0->hb i=hb j->i=j
 cap:∀i,i<k->IK (x i).hn (A i) (C i)
theorem LC.fr{w w':World}{g n k:Nat}{x:Nat->Ob}{A0 A:Nat->Option Addr}{C hb:Nat->Nat}{P:Nat->Prop}(h:LC w g n k x A0 A C hb)(hf:AP P w w')(hp:∀q,g<=q->q<w.1.size->¬P q):LC w' g n k x A0 A C hb:=⟨λh0=>by obtain⟨c,r,e⟩:=h.row h0;exact⟨c,r.fr hf (hp g Bj r.lt),e⟩,h.src,λi hi=>(h.hold i hi).frP hf (λh0=>⟨hp _ (Br (h.hlt i hi h0).1) (h.hlt i hi h0).2,(h.hlt i hi h0).2⟩),λi hi h0=>⟨(h.hlt i hi h0).1,Aa (h.hlt i hi h0).2 hf.size⟩,h.inj,h.cap⟩
theorem LC.grow{w w':World}{g n k:Nat}{x:Nat->Ob}{A0 A:Nat->Option Addr}{C hb:Nat->Nat}(h:LC w g n k x A0 A C hb)(hf:Below w.1.size w w'):LC w' g n k x A0 A C hb:=h.fr (Aq (P:=λ_=>False) hf) (λ_ _ _ h=>h)
theorem cP{P:Prop}(h:P:=by
  by_cases e:i=k;.subst e;rw[BT,BT];exact ho.frP (P:=λq=>q=g) F (λh0=>⟨Za,hlt' h0⟩)
  .rw[Cr _ _ e,Cr _ _ e];exact(h.hold i Za).frP (P:=λq=>q=g) ((Aq hb1).trans F) (λh0=>⟨λe=>Bt _ (e▸(h.hlt i Za h0).1),(h.hlt i Za h0).2⟩)):P:=h
theorem dO{P:Prop}(h:P:=by
  by_cases e1:i=k
  .by_cases e2:j=k;.rw[e1,e2]
   .subst e1;rw[BT,Cr _ _ e2]at e;have:=(h.hlt j Za h1).2;omega
  .by_cases e2:j=k;.subst e2;rw[BT,Cr _ _ e1]at e;have:=(h.hlt i Za h0).2;omega
   .rw[Cr _ _ e1,Cr _ _ e2]at e;exact h.inj i j Za Za h0 h1 e):P:=h
theorem dP{P:Prop}(h:P:=by
  simp only[Az];by_cases e:i=k;.subst e;rw[BT];exact⟨Za,hlt' h0⟩
  .rw[Cr _ _ e];exact⟨(h.hlt i Za h0).1,Aa (h.hlt i Za h0).2 hb1.size⟩):P:=h
theorem LC.put{w w1:World}{g n k:Nat}{x:Nat->Ob}{A0 A:Nat->Option Addr}{C hb:Nat->Nat}(h:LC w g n k x A0 A C hb)(hk:k<n)(hb1:Below w.1.size w w1){ad':OA}{cap' b':Nat}(hb':w.1.size<=b')(hlt':(x k).hn≠0->b'<w1.1.size)(ho:AV w1 b' (b'+1) ad' (x k).hn (x k).hs)(hcp:IK (x k).hn ad' cap'):LC (((((((w1.setCell ⟨g,k*7,none⟩ (.s (x k).kind)).setCell ⟨g,k*7+1,none⟩ (.s (x k).name)).setCell ⟨g,k*7+2,none⟩ (.i (x k).ver)).setCell ⟨g,k*7+3,none⟩ (.i (x k).born)).setCell ⟨g,k*7+4,none⟩ (.s (x k).text)).setCell ⟨g,k*7+5,none⟩ (.bool (x k).ending)).setCell ⟨g,k*7+6,none⟩ (.l ad' (x k).hn cap')) g n (k+1) x A0 (EQ A k ad') (EQ C k cap') (EQ hb k b'):=by
 obtain⟨c,r,hat⟩:=h.row Za;have hgw:=r.lt;have F:AP (λq=>q=g) w1 (((((((w1.setCell ⟨g,k*7,none⟩ (.s (x k).kind)).setCell ⟨g,k*7+1,none⟩ (.s (x k).name)).setCell ⟨g,k*7+2,none⟩ (.i (x k).ver)).setCell ⟨g,k*7+3,none⟩ (.i (x k).born)).setCell ⟨g,k*7+4,none⟩ (.s (x k).text)).setCell ⟨g,k*7+5,none⟩ (.bool (x k).ending)).setCell ⟨g,k*7+6,none⟩ (.l ad' (x k).hn cap')):=by
  iterate 7 refine AP.setCell (P:=λq=>q=g) ?_ (by rfl) _
  exact AP.refl _ _
 refine⟨λ_=>⟨_,((((((((r.below hb1 hgw).set (o:=k*7) Za _).set (o:=k*7+1) Za _).set (o:=k*7+2) Za _).set (o:=k*7+3) Za _).set (o:=k*7+4) Za _).set (o:=k*7+5) Za _).set (o:=k*7+6) Za _),λi hi=>?_⟩,λi h1 h2=>?_,λi hi=>?_,λi hi h0=>?_,λi j hi hj h0 h1 e=>?_,λi hi=>?_⟩
 .by_cases e:i=k
  .subst e;have a0:=hat i hi;rw[BT,BT];refine⟨?_,?_,?_,?_,?_,?_,?_⟩;all_goals simp[D9]
  .rw[Cr _ _ e,Cr _ _ e];exact(D6 (D6 (D6 (D6 (D6 (D6 (D6 (hat i hi) e (k:=k) Za Za _) e (k:=k) Za Za _) e (k:=k) Za Za _) e (k:=k) Za Za _) e (k:=k) Za Za _) e (k:=k) Za Za _) e (k:=k) Za Za _)
 .rw[Cr _ _ Za];exact h.src i Za h2
 .exact cP
 .exact dP
 .exact dO
 .by_cases e:i=k;.subst e;rw[BT,BT];exact hcp
  .rw[Cr _ _ e,Cr _ _ e];exact h.cap i Za
theorem LC.done{w:World}{ad:OA}{g n:Nat}{x:Nat->Ob}{A0 A:Nat->Option Addr}{C hb:Nat->Nat}(h:LC w g n n x A0 A C hb)(ha:0<n->ad=some ⟨g,0,none⟩):D5 w ad g n x A C hb:=⟨ha,h.row,h.hold,λi hi h0=>(h.hlt i hi h0).2,⟨λi hi h0 e=>Bt _ (e▸(h.hlt i hi h0).1),h.inj⟩⟩
theorem aC{P:Prop}(h:P:=by
  rcases hk with⟨h0,rfl⟩|⟨i,hi,h0,rfl⟩;.obtain⟨c,r,_⟩:=h.row h0;exact⟨Aw _,r.lt⟩
  .exact⟨Br (h.hlt i hi h0).1,(h.hlt i hi h0).2⟩):P:=h
theorem LC.rng{w:World}{g n:Nat}{x:Nat->Ob}{A0 A:Nat->Option Addr}{C hb:Nat->Nat}(h:LC w g n n x A0 A C hb){k:Nat}(hk:GA g n (λi=>(x i).hn) hb k):g<=k/\k<w.1.size:=by exact aC
structure LM (w:World)(g n k:Nat)(x:Nat->Ch)(A0 A:Nat->Option Addr)(C hb:Nat->Nat):Prop where
 row:0<n->∃c,AH w g (n*9) c/\∀i,i<n->LB c i (x i) (A i) (C i)src:∀i,k<=i->i<n->A i=A0 i
 hold:∀i,i<k->AV w (hb i) (hb i+1) (A i) (x i).ob.hn (x i).ob.hs
 hlt:∀i,i<k->(x i).ob.hn≠0->g<hb i/\hb i<w.1.size
 inj:∀i j,i<k->j<k->(x i).ob.hn≠0->(x j).ob.hn≠0->hb i=hb j->i=j
theorem LM.fr{w w':World}{g n k:Nat}{x:Nat->Ch}{A0 A:Nat->Option Addr}{C hb:Nat->Nat}{P:Nat->Prop}(h:LM w g n k x A0 A C hb)(hf:AP P w w')(hp:∀q,g<=q->q<w.1.size->¬P q):LM w' g n k x A0 A C hb:=⟨λh0=>by obtain⟨c,r,e⟩:=h.row h0;exact⟨c,r.fr hf (hp g Bj r.lt),e⟩,h.src,λi hi=>(h.hold i hi).frP hf (λh0=>⟨hp _ (Br (h.hlt i hi h0).1) (h.hlt i hi h0).2,(h.hlt i hi h0).2⟩),λi hi h0=>⟨(h.hlt i hi h0).1,Aa (h.hlt i hi h0).2 hf.size⟩,h.inj⟩
theorem LM.grow{w w':World}{g n k:Nat}{x:Nat->Ch}{A0 A:Nat->Option Addr}{C hb:Nat->Nat}(h:LM w g n k x A0 A C hb)(hf:Below w.1.size w w'):LM w' g n k x A0 A C hb:=h.fr (Aq (P:=λ_=>False) hf) (λ_ _ _ h=>h)
theorem LM.put{w w1:World}{g n k:Nat}{x:Nat->Ch}{A0 A:Nat->Option Addr}{C hb:Nat->Nat}(h:LM w g n k x A0 A C hb)(hk:k<n)(hb1:Below w.1.size w w1){ad':OA}{cap' b':Nat}(hb':w.1.size<=b')(hlt':(x k).ob.hn≠0->b'<w1.1.size)(ho:AV w1 b' (b'+1) ad' (x k).ob.hn (x k).ob.hs):LM (((((((w1.setCell ⟨g,k*9+2,none⟩ (.s (x k).ob.kind)).setCell ⟨g,k*9+3,none⟩ (.s (x k).ob.name)).setCell ⟨g,k*9+4,none⟩ (.i (x k).ob.ver)).setCell ⟨g,k*9+5,none⟩ (.i (x k).ob.born)).setCell ⟨g,k*9+6,none⟩ (.s (x k).ob.text)).setCell ⟨g,k*9+7,none⟩ (.bool (x k).ob.ending)).setCell ⟨g,k*9+8,none⟩ (.l ad' (x k).ob.hn cap')) g n (k+1) x A0 (EQ A k ad') (EQ C k cap') (EQ hb k b'):=by
 obtain⟨c,r,hat⟩:=h.row Za;have hgw:=r.lt;have F:AP (λq=>q=g) w1 (((((((w1.setCell ⟨g,k*9+2,none⟩ (.s (x k).ob.kind)).setCell ⟨g,k*9+3,none⟩ (.s (x k).ob.name)).setCell ⟨g,k*9+4,none⟩ (.i (x k).ob.ver)).setCell ⟨g,k*9+5,none⟩ (.i (x k).ob.born)).setCell ⟨g,k*9+6,none⟩ (.s (x k).ob.text)).setCell ⟨g,k*9+7,none⟩ (.bool (x k).ob.ending)).setCell ⟨g,k*9+8,none⟩ (.l ad' (x k).ob.hn cap')):=by
  iterate 7 refine AP.setCell (P:=λq=>q=g) ?_ (by rfl) _
  exact AP.refl _ _
 refine⟨λ_=>⟨_,((((((((r.below hb1 hgw).set (o:=k*9+2) Za _).set (o:=k*9+3) Za _).set (o:=k*9+4) Za _).set (o:=k*9+5) Za _).set (o:=k*9+6) Za _).set (o:=k*9+7) Za _).set (o:=k*9+8) Za _),λi hi=>?_⟩,λi h1 h2=>?_,λi hi=>?_,λi hi h0=>?_,λi j hi hj h0 h1 e=>?_⟩
 .by_cases e:i=k
  .subst e;have a0:=hat i hi;rw[BT,BT];refine⟨?_,?_,?_,?_,?_,?_,?_,?_,?_⟩;.exact Eq.trans (by simp[D9]) a0.1
   .exact Eq.trans (by simp[D9]) a0.2.1
   all_goals simp[D9]
  .rw[Cr _ _ e,Cr _ _ e];exact(Dy (Dy (Dy (Dy (Dy (Dy (Dy (hat i hi) e (k:=k) Za Za _) e (k:=k) Za Za _) e (k:=k) Za Za _) e (k:=k) Za Za _) e (k:=k) Za Za _) e (k:=k) Za Za _) e (k:=k) Za Za _)
 .rw[Cr _ _ Za];exact h.src i Za h2
 .exact cP
 .exact dP
 .exact dO
theorem LM.done{w:World}{ad:OA}{g n:Nat}{x:Nat->Ch}{A0 A:Nat->Option Addr}{C hb:Nat->Nat}(h:LM w g n n x A0 A C hb)(ha:0<n->ad=some ⟨g,0,none⟩):EG w ad g n x A C hb:=⟨ha,h.row,h.hold,λi hi h0=>(h.hlt i hi h0).2,⟨λi hi h0 e=>Bt _ (e▸(h.hlt i hi h0).1),h.inj⟩⟩
theorem LM.rng{w:World}{g n:Nat}{x:Nat->Ch}{A0 A:Nat->Option Addr}{C hb:Nat->Nat}(h:LM w g n n x A0 A C hb){k:Nat}(hk:GA g n (λi=>(x i).ob.hn) hb k):g<=k/\k<w.1.size:=by exact aC
theorem S9{β:Type}{n:Nat}(d:β){p:Nat->β->Prop}(h:∀i,i<n->∃x,p i x):∃f:Nat->β,∀i,i<n->p i (f i):=by
 have h':∀i,∃x,i<n->p i x:=λi=>by
  by_cases hi:i<n;.obtain⟨x,hx⟩:=h i hi;exact⟨x,λ_=>hx⟩
  .exact⟨d,λe=>absurd e hi⟩
 obtain⟨f,hf⟩:=Ou.1 h';exact⟨f,hf⟩
theorem BH.src{w:World}{lo hi:Nat}{ad:OA}{n:Nat}{x:Nat->Ob}(h:BH w lo hi ad n x):∃(c:Nat->Value)(A:Nat->Option Addr)(C:Nat->Nat),BP w lo hi ad (n*7) c/\(∀i,i<n->RE c i (x i) (A i) (C i))/\(∀i,i<n->AB w lo hi (A i) (x i).hn (x i).hs):=by
 obtain⟨F,hF⟩:=S9 (n:=n) ((none,0):(Option Addr×Nat)) (p:=λi q=>(∃b off,ad=some ⟨b,off,none⟩/\lo<=b/\b<hi/\DC w b (off+i*7) (x i) q.1 q.2)/\AB w lo hi q.1 (x i).hn (x i).hs) (λi hi'=>by obtain⟨b,off,ah,ch,e1,e2,e3,e4,e5⟩:=h i hi';exact⟨(ah,ch),⟨b,off,e1,e2,e3,e4⟩,e5⟩);have key:∀i,i<n->∃b off,ad=some ⟨b,off,none⟩/\lo<=b/\b<hi/\w.cell? ⟨b,off+i*7,none⟩=some (.s (x i).kind)/\w.cell? ⟨b,off+i*7+1,none⟩=some (.s (x i).name)/\w.cell? ⟨b,off+i*7+2,none⟩=some (.i (x i).ver)/\w.cell? ⟨b,off+i*7+3,none⟩=some (.i (x i).born)/\w.cell? ⟨b,off+i*7+4,none⟩=some (.s (x i).text)/\w.cell? ⟨b,off+i*7+5,none⟩=some (.bool (x i).ending)/\w.cell? ⟨b,off+i*7+6,none⟩=some (.slice (F i).1 (x i).hn (F i).2):=λi hi'=>by obtain⟨⟨b,off,e1,e2,e3,e4⟩,_⟩:=hF i hi';exact⟨b,off,e1,e2,e3,e4.c0,e4.c1,e4.c2,e4.c3,e4.c4,e4.c5,e4.c6⟩
 let c:Nat->Value:=λj=>match ad with
  |some a=>(w.cell? ⟨a.block,a.off+j,none⟩).getD (.i 0)
  |none=>.i 0;refine⟨c,λi=>(F i).1,λi=>(F i).2,⟨λj hj=>?_,λj hj=>?_⟩,λi hi'=>?_,λi hi'=>(hF i hi').2⟩
 .obtain⟨b,off,e1,e2,e3,f0,f1,f2,f3,f4,f5,f6⟩:=key (j/7) Za;subst e1;rcases(show j%7=0\/j%7=1\/j%7=2\/j%7=3\/j%7=4\/j%7=5\/j%7=6 by omega)with hr|hr|hr|hr|hr|hr|hr
  .have ej:off+j=off+j/7*7:=Za;have hcj:c j=.s (x (j/7)).kind:=by show(w.cell? ⟨b,off+j,none⟩).getD _=_;rw[ej,f0];rfl
   exact⟨b,off,rfl,e2,e3,by rw[hcj,ej];exact f0⟩
  .have ej:off+j=off+j/7*7+1:=Za;have hcj:c j=.s (x (j/7)).name:=by show(w.cell? ⟨b,off+j,none⟩).getD _=_;rw[ej,f1];rfl
   exact⟨b,off,rfl,e2,e3,by rw[hcj,ej];exact f1⟩
  .have ej:off+j=off+j/7*7+2:=Za;have hcj:c j=.i (x (j/7)).ver:=by show(w.cell? ⟨b,off+j,none⟩).getD _=_;rw[ej,f2];rfl
   exact⟨b,off,rfl,e2,e3,by rw[hcj,ej];exact f2⟩
  .have ej:off+j=off+j/7*7+3:=Za;have hcj:c j=.i (x (j/7)).born:=by show(w.cell? ⟨b,off+j,none⟩).getD _=_;rw[ej,f3];rfl
   exact⟨b,off,rfl,e2,e3,by rw[hcj,ej];exact f3⟩
  .have ej:off+j=off+j/7*7+4:=Za;have hcj:c j=.s (x (j/7)).text:=by show(w.cell? ⟨b,off+j,none⟩).getD _=_;rw[ej,f4];rfl
   exact⟨b,off,rfl,e2,e3,by rw[hcj,ej];exact f4⟩
  .have ej:off+j=off+j/7*7+5:=Za;have hcj:c j=.bool (x (j/7)).ending:=by show(w.cell? ⟨b,off+j,none⟩).getD _=_;rw[ej,f5];rfl
   exact⟨b,off,rfl,e2,e3,by rw[hcj,ej];exact f5⟩
  .have ej:off+j=off+j/7*7+6:=Za;have hcj:c j=.l (F (j/7)).1 (x (j/7)).hn (F (j/7)).2:=by show(w.cell? ⟨b,off+j,none⟩).getD _=_;rw[ej,f6];rfl
   exact⟨b,off,rfl,e2,e3,by rw[hcj,ej];exact f6⟩
 .obtain⟨b,off,e1,e2,e3,f0,f1,f2,f3,f4,f5,f6⟩:=key (j/7) Za;subst e1;rcases(show j%7=0\/j%7=1\/j%7=2\/j%7=3\/j%7=4\/j%7=5\/j%7=6 by omega)with hr|hr|hr|hr|hr|hr|hr
  .have ej:off+j=off+j/7*7:=Za;have hcj:c j=.s (x (j/7)).kind:=by show(w.cell? ⟨b,off+j,none⟩).getD _=_;rw[ej,f0];rfl
   rw[hcj];rfl
  .have ej:off+j=off+j/7*7+1:=Za;have hcj:c j=.s (x (j/7)).name:=by show(w.cell? ⟨b,off+j,none⟩).getD _=_;rw[ej,f1];rfl
   rw[hcj];rfl
  .have ej:off+j=off+j/7*7+2:=Za;have hcj:c j=.i (x (j/7)).ver:=by show(w.cell? ⟨b,off+j,none⟩).getD _=_;rw[ej,f2];rfl
   rw[hcj];rfl
  .have ej:off+j=off+j/7*7+3:=Za;have hcj:c j=.i (x (j/7)).born:=by show(w.cell? ⟨b,off+j,none⟩).getD _=_;rw[ej,f3];rfl
   rw[hcj];rfl
  .have ej:off+j=off+j/7*7+4:=Za;have hcj:c j=.s (x (j/7)).text:=by show(w.cell? ⟨b,off+j,none⟩).getD _=_;rw[ej,f4];rfl
   rw[hcj];rfl
  .have ej:off+j=off+j/7*7+5:=Za;have hcj:c j=.bool (x (j/7)).ending:=by show(w.cell? ⟨b,off+j,none⟩).getD _=_;rw[ej,f5];rfl
   rw[hcj];rfl
  .have ej:off+j=off+j/7*7+6:=Za;have hcj:c j=.l (F (j/7)).1 (x (j/7)).hn (F (j/7)).2:=by show(w.cell? ⟨b,off+j,none⟩).getD _=_;rw[ej,f6];rfl
   rw[hcj];rfl
 .obtain⟨b,off,e1,e2,e3,f0,f1,f2,f3,f4,f5,f6⟩:=key i hi';subst e1;have hc:∀j v,w.cell? ⟨b,off+j,none⟩=some v->c j=v:=λj v h=>by show(w.cell? ⟨b,off+j,none⟩).getD _=_;rw[h];rfl
  exact⟨hc (i*7) _ (by exact f0),hc (i*7+1) _ (by rw[<-Bf];exact f1),hc (i*7+2) _ (by rw[<-Bf];exact f2),hc (i*7+3) _ (by rw[<-Bf];exact f3),hc (i*7+4) _ (by rw[<-Bf];exact f4),hc (i*7+5) _ (by rw[<-Bf];exact f5),hc (i*7+6) _ (by rw[<-Bf];exact f6)⟩
theorem Dp.src{w:World}{lo hi:Nat}{ad:OA}{n:Nat}{x:Nat->Ch}(h:Dp w lo hi ad n x):∃(c:Nat->Value)(A:Nat->Option Addr)(C:Nat->Nat),BP w lo hi ad (n*9) c/\(∀i,i<n->LB c i (x i) (A i) (C i))/\(∀i,i<n->AB w lo hi (A i) (x i).ob.hn (x i).ob.hs):=by
 obtain⟨F,hF⟩:=S9 (n:=n) ((none,0):(Option Addr×Nat)) (p:=λi q=>(∃b off,ad=some ⟨b,off,none⟩/\lo<=b/\b<hi/\Ga w b (off+i*9) (x i) q.1 q.2)/\AB w lo hi q.1 (x i).ob.hn (x i).ob.hs) (λi hi'=>by obtain⟨b,off,ah,ch,e1,e2,e3,e4,e5⟩:=h i hi';exact⟨(ah,ch),⟨b,off,e1,e2,e3,e4⟩,e5⟩);have key:∀i,i<n->∃b off,ad=some ⟨b,off,none⟩/\lo<=b/\b<hi/\w.cell? ⟨b,off+i*9,none⟩=some (.i (x i).ver)/\w.cell? ⟨b,off+i*9+1,none⟩=some (.bool (x i).gone)/\w.cell? ⟨b,off+i*9+2,none⟩=some (.s (x i).ob.kind)/\w.cell? ⟨b,off+i*9+3,none⟩=some (.s (x i).ob.name)/\w.cell? ⟨b,off+i*9+4,none⟩=some (.i (x i).ob.ver)/\w.cell? ⟨b,off+i*9+5,none⟩=some (.i (x i).ob.born)/\w.cell? ⟨b,off+i*9+6,none⟩=some (.s (x i).ob.text)/\w.cell? ⟨b,off+i*9+7,none⟩=some (.bool (x i).ob.ending)/\w.cell? ⟨b,off+i*9+8,none⟩=some (.slice (F i).1 (x i).ob.hn (F i).2):=λi hi'=>by obtain⟨⟨b,off,e1,e2,e3,e4⟩,_⟩:=hF i hi';exact⟨b,off,e1,e2,e3,e4.c0,e4.c1,e4.c2,e4.c3,e4.c4,e4.c5,e4.c6,e4.c7,e4.c8⟩
 let c:Nat->Value:=λj=>match ad with
  |some a=>(w.cell? ⟨a.block,a.off+j,none⟩).getD (.i 0)
  |none=>.i 0;refine⟨c,λi=>(F i).1,λi=>(F i).2,⟨λj hj=>?_,λj hj=>?_⟩,λi hi'=>?_,λi hi'=>(hF i hi').2⟩
 .obtain⟨b,off,e1,e2,e3,f0,f1,f2,f3,f4,f5,f6,f7,f8⟩:=key (j/9) Za;subst e1;rcases(show j%9=0\/j%9=1\/j%9=2\/j%9=3\/j%9=4\/j%9=5\/j%9=6\/j%9=7\/j%9=8 by omega)with hr|hr|hr|hr|hr|hr|hr|hr|hr
  .have ej:off+j=off+j/9*9:=Za;have hcj:c j=.i (x (j/9)).ver:=by show(w.cell? ⟨b,off+j,none⟩).getD _=_;rw[ej,f0];rfl
   exact⟨b,off,rfl,e2,e3,by rw[hcj,ej];exact f0⟩
  .have ej:off+j=off+j/9*9+1:=Za;have hcj:c j=.bool (x (j/9)).gone:=by show(w.cell? ⟨b,off+j,none⟩).getD _=_;rw[ej,f1];rfl
   exact⟨b,off,rfl,e2,e3,by rw[hcj,ej];exact f1⟩
  .have ej:off+j=off+j/9*9+2:=Za;have hcj:c j=.s (x (j/9)).ob.kind:=by show(w.cell? ⟨b,off+j,none⟩).getD _=_;rw[ej,f2];rfl
   exact⟨b,off,rfl,e2,e3,by rw[hcj,ej];exact f2⟩
  .have ej:off+j=off+j/9*9+3:=Za;have hcj:c j=.s (x (j/9)).ob.name:=by show(w.cell? ⟨b,off+j,none⟩).getD _=_;rw[ej,f3];rfl
   exact⟨b,off,rfl,e2,e3,by rw[hcj,ej];exact f3⟩
  .have ej:off+j=off+j/9*9+4:=Za;have hcj:c j=.i (x (j/9)).ob.ver:=by show(w.cell? ⟨b,off+j,none⟩).getD _=_;rw[ej,f4];rfl
   exact⟨b,off,rfl,e2,e3,by rw[hcj,ej];exact f4⟩
  .have ej:off+j=off+j/9*9+5:=Za;have hcj:c j=.i (x (j/9)).ob.born:=by show(w.cell? ⟨b,off+j,none⟩).getD _=_;rw[ej,f5];rfl
   exact⟨b,off,rfl,e2,e3,by rw[hcj,ej];exact f5⟩
  .have ej:off+j=off+j/9*9+6:=Za;have hcj:c j=.s (x (j/9)).ob.text:=by show(w.cell? ⟨b,off+j,none⟩).getD _=_;rw[ej,f6];rfl
   exact⟨b,off,rfl,e2,e3,by rw[hcj,ej];exact f6⟩
  .have ej:off+j=off+j/9*9+7:=Za;have hcj:c j=.bool (x (j/9)).ob.ending:=by show(w.cell? ⟨b,off+j,none⟩).getD _=_;rw[ej,f7];rfl
   exact⟨b,off,rfl,e2,e3,by rw[hcj,ej];exact f7⟩
  .have ej:off+j=off+j/9*9+8:=Za;have hcj:c j=.l (F (j/9)).1 (x (j/9)).ob.hn (F (j/9)).2:=by show(w.cell? ⟨b,off+j,none⟩).getD _=_;rw[ej,f8];rfl
   exact⟨b,off,rfl,e2,e3,by rw[hcj,ej];exact f8⟩
 .obtain⟨b,off,e1,e2,e3,f0,f1,f2,f3,f4,f5,f6,f7,f8⟩:=key (j/9) Za;subst e1;rcases(show j%9=0\/j%9=1\/j%9=2\/j%9=3\/j%9=4\/j%9=5\/j%9=6\/j%9=7\/j%9=8 by omega)with hr|hr|hr|hr|hr|hr|hr|hr|hr
  .have ej:off+j=off+j/9*9:=Za;have hcj:c j=.i (x (j/9)).ver:=by show(w.cell? ⟨b,off+j,none⟩).getD _=_;rw[ej,f0];rfl
   rw[hcj];rfl
  .have ej:off+j=off+j/9*9+1:=Za;have hcj:c j=.bool (x (j/9)).gone:=by show(w.cell? ⟨b,off+j,none⟩).getD _=_;rw[ej,f1];rfl
   rw[hcj];rfl
  .have ej:off+j=off+j/9*9+2:=Za;have hcj:c j=.s (x (j/9)).ob.kind:=by show(w.cell? ⟨b,off+j,none⟩).getD _=_;rw[ej,f2];rfl
   rw[hcj];rfl
  .have ej:off+j=off+j/9*9+3:=Za;have hcj:c j=.s (x (j/9)).ob.name:=by show(w.cell? ⟨b,off+j,none⟩).getD _=_;rw[ej,f3];rfl
   rw[hcj];rfl
  .have ej:off+j=off+j/9*9+4:=Za;have hcj:c j=.i (x (j/9)).ob.ver:=by show(w.cell? ⟨b,off+j,none⟩).getD _=_;rw[ej,f4];rfl
   rw[hcj];rfl
  .have ej:off+j=off+j/9*9+5:=Za;have hcj:c j=.i (x (j/9)).ob.born:=by show(w.cell? ⟨b,off+j,none⟩).getD _=_;rw[ej,f5];rfl
   rw[hcj];rfl
  .have ej:off+j=off+j/9*9+6:=Za;have hcj:c j=.s (x (j/9)).ob.text:=by show(w.cell? ⟨b,off+j,none⟩).getD _=_;rw[ej,f6];rfl
   rw[hcj];rfl
  .have ej:off+j=off+j/9*9+7:=Za;have hcj:c j=.bool (x (j/9)).ob.ending:=by show(w.cell? ⟨b,off+j,none⟩).getD _=_;rw[ej,f7];rfl
   rw[hcj];rfl
  .have ej:off+j=off+j/9*9+8:=Za;have hcj:c j=.l (F (j/9)).1 (x (j/9)).ob.hn (F (j/9)).2:=by show(w.cell? ⟨b,off+j,none⟩).getD _=_;rw[ej,f8];rfl
   rw[hcj];rfl
 .obtain⟨b,off,e1,e2,e3,f0,f1,f2,f3,f4,f5,f6,f7,f8⟩:=key i hi';subst e1;have hc:∀j v,w.cell? ⟨b,off+j,none⟩=some v->c j=v:=λj v h=>by show(w.cell? ⟨b,off+j,none⟩).getD _=_;rw[h];rfl
  exact⟨hc (i*9) _ (by exact f0),hc (i*9+1) _ (by rw[<-Bf];exact f1),hc (i*9+2) _ (by rw[<-Bf];exact f2),hc (i*9+3) _ (by rw[<-Bf];exact f3),hc (i*9+4) _ (by rw[<-Bf];exact f4),hc (i*9+5) _ (by rw[<-Bf];exact f5),hc (i*9+6) _ (by rw[<-Bf];exact f6),hc (i*9+7) _ (by rw[<-Bf];exact f7),hc (i*9+8) _ (by rw[<-Bf];exact f8)⟩
theorem B8.src{w:World}{lo hi:Nat}{ad:OA}{n:Nat}{x:Nat->Ti}(h:B8 w lo hi ad n x):∃(c:Nat->Value),BP w lo hi ad (n*5) c/\(∀i,i<n->mX c i (x i)):=by
 have hF:∀i,i<n->(∃b off,ad=some ⟨b,off,none⟩/\lo<=b/\b<hi/\Hs w b (off+i*5) (x i)):=h;have key:∀i,i<n->∃b off,ad=some ⟨b,off,none⟩/\lo<=b/\b<hi/\w.cell? ⟨b,off+i*5,none⟩=some (.s (x i).client)/\w.cell? ⟨b,off+i*5+1,none⟩=some (.i (x i).num)/\w.cell? ⟨b,off+i*5+2,none⟩=some (.s (x i).print)/\w.cell? ⟨b,off+i*5+3,none⟩=some (.i (x i).code)/\w.cell? ⟨b,off+i*5+4,none⟩=some (.i (x i).ver):=λi hi'=>by obtain⟨b,off,e1,e2,e3,e4⟩:=hF i hi';exact⟨b,off,e1,e2,e3,e4.c0,e4.c1,e4.c2,e4.c3,e4.c4⟩
 let c:Nat->Value:=λj=>match ad with
  |some a=>(w.cell? ⟨a.block,a.off+j,none⟩).getD (.i 0)
  |none=>.i 0;refine⟨c,⟨λj hj=>?_,λj hj=>?_⟩,λi hi'=>?_⟩
 .obtain⟨b,off,e1,e2,e3,f0,f1,f2,f3,f4⟩:=key (j/5) Za;subst e1;rcases(show j%5=0\/j%5=1\/j%5=2\/j%5=3\/j%5=4 by omega)with hr|hr|hr|hr|hr
  .have ej:off+j=off+j/5*5:=Za;have hcj:c j=.s (x (j/5)).client:=by show(w.cell? ⟨b,off+j,none⟩).getD _=_;rw[ej,f0];rfl
   exact⟨b,off,rfl,e2,e3,by rw[hcj,ej];exact f0⟩
  .have ej:off+j=off+j/5*5+1:=Za;have hcj:c j=.i (x (j/5)).num:=by show(w.cell? ⟨b,off+j,none⟩).getD _=_;rw[ej,f1];rfl
   exact⟨b,off,rfl,e2,e3,by rw[hcj,ej];exact f1⟩
  .have ej:off+j=off+j/5*5+2:=Za;have hcj:c j=.s (x (j/5)).print:=by show(w.cell? ⟨b,off+j,none⟩).getD _=_;rw[ej,f2];rfl
   exact⟨b,off,rfl,e2,e3,by rw[hcj,ej];exact f2⟩
  .have ej:off+j=off+j/5*5+3:=Za;have hcj:c j=.i (x (j/5)).code:=by show(w.cell? ⟨b,off+j,none⟩).getD _=_;rw[ej,f3];rfl
   exact⟨b,off,rfl,e2,e3,by rw[hcj,ej];exact f3⟩
  .have ej:off+j=off+j/5*5+4:=Za;have hcj:c j=.i (x (j/5)).ver:=by show(w.cell? ⟨b,off+j,none⟩).getD _=_;rw[ej,f4];rfl
   exact⟨b,off,rfl,e2,e3,by rw[hcj,ej];exact f4⟩
 .obtain⟨b,off,e1,e2,e3,f0,f1,f2,f3,f4⟩:=key (j/5) Za;subst e1;rcases(show j%5=0\/j%5=1\/j%5=2\/j%5=3\/j%5=4 by omega)with hr|hr|hr|hr|hr
  .have ej:off+j=off+j/5*5:=Za;have hcj:c j=.s (x (j/5)).client:=by show(w.cell? ⟨b,off+j,none⟩).getD _=_;rw[ej,f0];rfl
   rw[hcj];rfl
  .have ej:off+j=off+j/5*5+1:=Za;have hcj:c j=.i (x (j/5)).num:=by show(w.cell? ⟨b,off+j,none⟩).getD _=_;rw[ej,f1];rfl
   rw[hcj];rfl
  .have ej:off+j=off+j/5*5+2:=Za;have hcj:c j=.s (x (j/5)).print:=by show(w.cell? ⟨b,off+j,none⟩).getD _=_;rw[ej,f2];rfl
   rw[hcj];rfl
  .have ej:off+j=off+j/5*5+3:=Za;have hcj:c j=.i (x (j/5)).code:=by show(w.cell? ⟨b,off+j,none⟩).getD _=_;rw[ej,f3];rfl
   rw[hcj];rfl
  .have ej:off+j=off+j/5*5+4:=Za;have hcj:c j=.i (x (j/5)).ver:=by show(w.cell? ⟨b,off+j,none⟩).getD _=_;rw[ej,f4];rfl
   rw[hcj];rfl
 .obtain⟨b,off,e1,e2,e3,f0,f1,f2,f3,f4⟩:=key i hi';subst e1;have hc:∀j v,w.cell? ⟨b,off+j,none⟩=some v->c j=v:=λj v h=>by show(w.cell? ⟨b,off+j,none⟩).getD _=_;rw[h];rfl
  exact⟨hc (i*5) _ (by exact f0),hc (i*5+1) _ (by rw[<-Bf];exact f1),hc (i*5+2) _ (by rw[<-Bf];exact f2),hc (i*5+3) _ (by rw[<-Bf];exact f3),hc (i*5+4) _ (by rw[<-Bf];exact f4)⟩
theorem BP.below{w w':World}{B lo hi:Nat}{ad:OA}{m:Nat}{c:Nat->Value}(h:BP w lo hi ad m c)(hb:Below B w w')(hB:hi<=B):BP w' lo hi ad m c:=⟨λj hj=>by obtain⟨b,off,e1,e2,e3,e4⟩:=h.at_ j hj;exact⟨b,off,e1,e2,e3,(hb.cell (p:=⟨b,off+j,none⟩) (Aa e3 hB)).trans e4⟩,h.one⟩
theorem Ry (n:Nat)(x:Nat->Ob)(a:OA)(c:Nat)(w:World)(lo hi:Nat)(hhi:hi<=w.1.size)(hn:(n:Int)<=1099511627776)(hf:∀i,i<n->CW (x i))(hc:BH w lo hi a n x):Calls prog 92 #[.l a n c] w λe w'=>∃ad' cap' g A C hb,e=.returned (.l ad' n cap')/\(IK n ad' cap'/\∀i,i<n->IK (x i).hn (A i) (C i))/\D5 w' ad' g n x A C hb/\(∀q,GA g n (λi=>(x i).hn) hb q->w.1.size<=q)/\Below w.1.size w w':=by
 obtain⟨co,Ao,Co,so,ato,sto⟩:=hc.src;have SO:=Ai so;have AO:=Ai ato;have HO:=Ai sto;have F4:=Ai hf;clear so ato sto hc hf;go_enter func92,ntmps92;go_wp2_with fail;refine(TT n co a c _ lo hi hhi Za SO).mono ?_;rintro e w1 ⟨ad1,d1,rfl,hcp1,hr1,hb1⟩;have sX:=Ai hcp1;clear hcp1;have jQ:=Ai hr1;have B1:=hb1;have yN:Hid (0<n->ad1=some ⟨w.1.size,0,none⟩):=λh0=>(jQ h0).1;have cp0:LC w1 w.1.size n 0 x Ao Ao Co (λ_=>0):=⟨λh0=>⟨co,(jQ h0).2,AO⟩,λ_ _ _=>rfl,λi hi=>absurd hi (Al _),λi hi=>absurd hi (Al _),λi j hi=>absurd hi (Al _),λi hi=>absurd hi (Al _)⟩;clear hr1 hb1;go_wp2;go_loopw[10](λi wr=>∃(k:Nat)(A:Nat->Option Addr)(C hb:Nat->Nat),k<=n/\i=.i k/\Below w.1.size w wr/\LC wr w.1.size n k x Ao A C hb)(λi _=>n-(intOf i).toNat);case atStart=>exact⟨0,_,_,_,Ap _,rfl,B1,cp0⟩
 case round=>
  obtain⟨k,A,C,hb,hk,rfl,b0,cp⟩:=hrel;clear cp0;by_cases hkn:k<n
  .obtain⟨c,rr,hat⟩:=cp.row Za;have hA:=yN Za;subst hA;obtain⟨t0,t1,t2,t3,t4,t5,t6⟩:=hat k hkn;have d0:=(rr.cell (k*7) Za).trans (congrArg some t0);have d1:=(rr.cell (k*7+1) Za).trans (congrArg some t1);have d2:=(rr.cell (k*7+2) Za).trans (congrArg some t2);have d3:=(rr.cell (k*7+3) Za).trans (congrArg some t3);have d4:=(rr.cell (k*7+4) Za).trans (congrArg some t4);have d5:=(rr.cell (k*7+5) Za).trans (congrArg some t5);have d6:=(rr.cell (k*7+6) Za).trans (congrArg some t6);have hsrc:=HO k hkn;rw[<-cp.src k Bj hkn]at hsrc;have sG:=Ai hsrc;have hfk:((x k).hn:Int)<=8796093022208:=(F4 k hkn).h;have CP:=Ai cp;have RR:=Ai rr;have hwz:w.1.size<wr.1.size:=rr.lt;clear t0 t1 t2 t3 t4 t5 t6 hsrc cp rr hat;go_wp2_with (go_at_call 150;go_must(refine(LU (x k) (A k) (C k) _ lo hi Zd hfk (by exact sG.below (b0.alloc b0.size _) hhi)).mono ?_;rintro e w2 ⟨ad',cap',b',rfl,hcp',hb',hlt',ho',hb2⟩;have ao:=Ai hcp';clear hcp';have hb3:Below wr.1.size wr w2:=((Ae _ _).trans (hb2.mono Ze));have rg:=RR.below hb3 RR.lt;have s0:=rg.cell (k*7) Za;have s1:=rg.cell (k*7+1) Za;have s2:=rg.cell (k*7+2) Za;have s3:=rg.cell (k*7+3) Za;have s4:=rg.cell (k*7+4) Za;have s5:=rg.cell (k*7+5) Za;have s6:=rg.cell (k*7+6) Za;have sf:=rg.free;have E3:=Ai hb3;have wA:=Ai ho';have wX:=Ai hlt';have wZ:=Ai hb';clear rg hb3 ho' hlt' hb' hb2));have hbb:wr.1.size<=b':=by have:=wZ.out;simp at this;omega
   have CPP:=Ai (CP.put hkn E3 (cap':=cap') hbb wX wA ao);have hz3:=E3.size;clear s0 s1 s2 s3 s4 s5 s6 sf d0 d1 d2 d3 d4 d5 d6;go_roundw;case rel=>
    refine⟨k+1,_,_,_,Za,by go_num,?_,CPP⟩;iterate 7 refine AJ ?_ Ze _
    exact b0.trans (E3.mono Za)
   case measure=>simp[intOf];omega
  .have hke:k=n:=Za;subst hke;have CPO:=Ai cp;clear cp;go_wp2;go_ret;exact⟨ad1,d1,w.1.size,A,C,hb,rfl,⟨sX,CPO.cap⟩,CPO.done yN,λq hq=>(CPO.rng hq).1,b0⟩
theorem Vi (x:Ch)(ad:OA)(cap:Nat)(w:World)(lo hi:Nat)(hhi:hi<=w.1.size)(hl:(x.ob.hn:Int)<=8796093022208)(hc:AB w lo hi ad x.ob.hn x.ob.hs):Calls prog 94 #[.agg #[.i x.ver,.bool x.gone,.s x.ob.kind,.s x.ob.name,.i x.ob.ver,.i x.ob.born,.s x.ob.text,.bool x.ob.ending,.l ad x.ob.hn cap]] w λe w'=>∃ad' cap' b',e=.returned (.agg #[.i x.ver,.bool x.gone,.s x.ob.kind,.s x.ob.name,.i x.ob.ver,.i x.ob.born,.s x.ob.text,.bool x.ob.ending,.l ad' x.ob.hn cap'])/\w.1.size<=b'/\(x.ob.hn≠0->b'<w'.1.size)/\AV w' b' (b'+1) ad' x.ob.hn x.ob.hs/\Below w.1.size w w':=by
 have HC:=Ai hc;clear hc;go_enter func94,ntmps94;go_wp2_with fail;refine(LU x.ob ad cap _ lo hi Zd hl (by exact HC.below ((Ae _ _).alloc Ze _) hhi)).mono ?_;rintro e w2 ⟨ad',cap',b',rfl,_,hb',hlt',ho',hb2⟩;have hB2:Below w.1.size w w2:=((Ae _ _).alloc Ze _).trans (hb2.mono Zd);have hz2:w.1.size+1<w2.1.size:=by have:=hb2.size;simp at this;omega
 obtain⟨A0,A1,F0,F1⟩:=QZ hb2;have u0:=A0 0;have u1:=A0 1;have u2:=A0 2;have u3:=A0 3;have u4:=A0 4;have u5:=A0 5;have u6:=A0 6;have u7:=A0 7;have u8:=A0 8;have v0:=A1 0;have v1:=A1 1;have v2:=A1 2;have v3:=A1 3;have v4:=A1 4;have v5:=A1 5;have v6:=A1 6;have v7:=A1 7;have v8:=A1 8;simp only[Ah,Ad,Ab]at u0 u1 u2 u3 u4 u5 u6 u7 u8 v0 v1 v2 v3 v4 v5 v6 v7 v8;have HO:=Ai ho';have HL:=Ai hlt';have bh:w.1.size+2<=b':=by have:=hb';simp at this;omega
 clear ho' hlt' hb' A0 A1 hb2;go_wp2;refine bodyPost_ret (v:=.agg #[.i x.ver,.bool x.gone,.s x.ob.kind,.s x.ob.name,.i x.ob.ver,.i x.ob.born,.s x.ob.text,.bool x.ob.ending,.l ad' x.ob.hn cap']) (by simp[results,results94,go_sem,v0,v1,v2,v3,v4,v5,v6,v7,v8]) rfl ⟨ad',cap',b',rfl,Za,λh0=>by simpa using HL.out h0,?_,?_⟩
 .refine HO.frP (P:=λq=>q=w.1.size\/q=w.1.size+1) ?_ (λh0=>⟨Za,HL h0⟩);iterate 16 refine AP.setCell (P:=λq=>q=w.1.size\/q=w.1.size+1) ?_ Ze _
  exact AP.refl _ _
 .iterate 16 refine AJ ?_ Ze _
  exact hB2
def Bg (l:List Value):Nat->Value:=λj=>l.getD j (.i 0)
theorem ZU{W:World}{B:Nat}{v0 v1 v2:Value}(h:AH W B 3 (Bg [v0,v1,v2])):W.cell? ⟨B,0,none⟩=some v0/\W.cell? ⟨B,1,none⟩=some v1/\W.cell? ⟨B,2,none⟩=some v2:=⟨h.cell 0 Za,h.cell 1 Za,h.cell 2 Za⟩
theorem bl{W:World}{B:Nat}{v0 v1 v2 v3:Value}(h:AH W B 4 (Bg [v0,v1,v2,v3])):W.cell? ⟨B,0,none⟩=some v0/\W.cell? ⟨B,1,none⟩=some v1/\W.cell? ⟨B,2,none⟩=some v2/\W.cell? ⟨B,3,none⟩=some v3:=⟨h.cell 0 Za,h.cell 1 Za,h.cell 2 Za,h.cell 3 Za⟩
theorem YP{W:World}{B:Nat}{v0 v1 v2 v3 v4:Value}(h:AH W B 5 (Bg [v0,v1,v2,v3,v4])):W.cell? ⟨B,0,none⟩=some v0/\W.cell? ⟨B,1,none⟩=some v1/\W.cell? ⟨B,2,none⟩=some v2/\W.cell? ⟨B,3,none⟩=some v3/\W.cell? ⟨B,4,none⟩=some v4:=⟨h.cell 0 Za,h.cell 1 Za,h.cell 2 Za,h.cell 3 Za,h.cell 4 Za⟩
theorem xQ{W:World}{B:Nat}{v0 v1 v2 v3 v4 v5 v6:Value}(h:AH W B 7 (Bg [v0,v1,v2,v3,v4,v5,v6])):W.cell? ⟨B,0,none⟩=some v0/\W.cell? ⟨B,1,none⟩=some v1/\W.cell? ⟨B,2,none⟩=some v2/\W.cell? ⟨B,3,none⟩=some v3/\W.cell? ⟨B,4,none⟩=some v4/\W.cell? ⟨B,5,none⟩=some v5/\W.cell? ⟨B,6,none⟩=some v6:=⟨h.cell 0 Za,h.cell 1 Za,h.cell 2 Za,h.cell 3 Za,h.cell 4 Za,h.cell 5 Za,h.cell 6 Za⟩
theorem AS{w w1:World}{l:List Value}{t:TypeId}(hb:Below (w.alloc (.cells l.toArray t)).1.size (w.alloc (.cells l.toArray t)) w1):AH w1 w.1.size l.length (Bg l):=⟨by have:=hb.size;simp at this;omega,λj=>by rw[hb.frozen (p:=⟨w.1.size,j,none⟩) Ze];simp,λj hj=>by rw[Au hb j];simp[Bg,hj]⟩
theorem AH.vset{w:World}{g m:Nat}{l l':List Value}{o:Nat}{v:Value}(h:AH w g m (Bg l))(ho:o<m)(e:∀j,j<m->Bg l' j=D9 (Bg l) o v j):AH (w.setCell ⟨g,o,none⟩ v) g m (Bg l'):=⟨(h.set ho v).lt,(h.set ho v).free,λj hj=>by rw[(h.set ho v).cell j hj,e j hj]⟩
theorem I6{W:World}{B:Nat}{v0 v1 v2 v3 v4:Value}(h:AH W B 5 (Bg [v0,v1,v2,v3,v4])):W.cell? ⟨B,0,none⟩=some v0/\W.cell? ⟨B,1,none⟩=some v1/\W.cell? ⟨B,2,none⟩=some v2/\W.cell? ⟨B,3,none⟩=some v3/\W.cell? ⟨B,4,none⟩=some v4:=⟨h.cell 0 Za,h.cell 1 Za,h.cell 2 Za,h.cell 3 Za,h.cell 4 Za⟩
theorem Sl{P:Prop}(h:P:=by rcases(show j=0\/j=1\/j=2\/j=3\/j=4 by omega)with rfl|rfl|rfl|rfl|rfl<;>rfl):P:=h
theorem Uw (v0 v1 v2 v3 v4 v:Value):∀j,j<5->Bg [v0,v1,v,v3,v4] j=D9 (Bg [v0,v1,v2,v3,v4]) 2 v j:=λj hj=>by exact Sl
theorem eE (v0 v1 v2 v3 v4 v:Value):∀j,j<5->Bg [v0,v1,v2,v,v4] j=D9 (Bg [v0,v1,v2,v3,v4]) 3 v j:=λj hj=>by exact Sl
theorem pR (v0 v1 v2 v3 v4 v:Value):∀j,j<5->Bg [v0,v1,v2,v3,v] j=D9 (Bg [v0,v1,v2,v3,v4]) 4 v j:=λj hj=>by exact Sl
theorem Pi{w:World}{b o:Nat}{v:Value}(h:w.cell? ⟨b,o,none⟩=some v):w.setCell ⟨b,o,none⟩ v=w:=by
 rw[Go.Sort.setCell_eq];refine Go.Sort.mapBlock_id _ _ _ (λc e fr hc=>?_);have:c[o]?=some v:=by simpa[World.cell?,hc]using h
 obtain⟨h1,h2⟩:=Cj.1 this;apply Array.ext;.simp
 .intro j h3 h4;rw[Array.getElem_setIfInBounds];split;.next e=>subst e;exact h2.symm
  .rfl
structure xW (x:Bk)(p:Pl)(d1 d2 d3:Nat):Prop where
 o:IK x.on p.a1 d1
 os:∀i,i<x.on->IK (x.os i).hn (p.A1 i) (p.C1 i)h:IK x.hn p.a2 d2
 t:IK x.tn p.a3 d3
theorem MK (x:Bk)(a1 a2 a3:OA)(c1 c2 c3:Nat)(w:World)(lo hi:Nat)(hhi:hi<=w.1.size)(hf:Cx x)(hc:Bz w lo hi x a1 a2 a3):Calls prog 42 #[.agg (vB x a1 a2 a3 c1 c2 c3)] w λe w'=>∃(p:Pl)(d1 d2 d3:Nat),e=.returned (.agg (vB x p.a1 p.a2 p.a3 d1 d2 d3))/\xW x p d1 d2 d3/\CZ w' x p/\(∀k,DS p x k->w.1.size<=k)/\Below w.1.size w w':=by
 obtain⟨f1,f2,f3,f4,f5,f6⟩:=hf;have uD:=Ai hc.o;obtain⟨cc,Ac,Cc,sc,atc,stc⟩:=hc.h.src;obtain⟨ct,st,att⟩:=hc.t.src;have SC:=Ai sc;have STT:=Ai st;have AC:=Ai atc;have AT:=Ai att;have HC:=Ai stc;have F4:=Ai f4;have F5h:=Ai f5;clear sc st atc att stc hc f4 f5 f6;have hbA:∀o1 o2,Below w.1.size w ((w.alloc o1).alloc o2):=λo1 o2=>((Ak _ _).alloc Bj _).alloc Ze _;go_enter func42,ntmps42;go_wp2_with fail;refine(Ry x.on x.os a1 c1 _ lo hi Zd Za F4 (uD.below (hbA _ _) hhi)).mono ?_;rintro e w1 ⟨ad1,d1,g1,A,C,hb,rfl,hcp1,at1,hq1,hb1⟩;have sY:=Ai hcp1;clear hcp1;have B1:Below w.1.size w w1:=(hbA _ _).trans (hb1.mono Zd);have z1:w.1.size+2<=w1.1.size:=by have:=hb1.size;simp at this;omega
 have rz:AH w1 (w.alloc (.cells (vB x a1 a2 a3 c1 c2 c3) 35)).1.size 5 (Bg [.i 0,.i 0,.l none 0 0,.l none 0 0,.l none 0 0]):=AS (w:=w.alloc (.cells (vB x a1 a2 a3 c1 c2 c3) 35)) (l:=[.i 0,.i 0,.l none 0 0,.l none 0 0,.l none 0 0]) (t:=35) hb1;have rb:AH w1 w.1.size 5 (Bg [.i x.now,.i x.floor,.l a1 x.on c1,.l a2 x.hn c2,.l a3 x.tn c3]):=AS (w:=w) (l:=[.i x.now,.i x.floor,.l a1 x.on c1,.l a2 x.hn c2,.l a3 x.tn c3]) (t:=35) (w1:=w1) (by have h:=(Ae (w.alloc (.cells (vB x a1 a2 a3 c1 c2 c3) 35)) (.cells #[.i 0,.i 0,.l none 0 0,.l none 0 0,.l none 0 0] 35)).trans (hb1.mono Ze);simpa using h);simp only[AE]at rz hq1;have RZ:=Ai rz;have RB:=Ai rb;have AT1:=Ai at1;have sD:=Ai hq1;obtain⟨p0,p1,p2,p3,p4⟩:=I6 rb;have pf:=rb.free;clear rz rb at1 hq1 hb1 hbA;go_wp2_with fail;have rb2:AH (w1.setCell ⟨w.1.size,2,none⟩ (.l ad1 x.on d1)) w.1.size 5 (Bg [.i x.now,.i x.floor,.l ad1 x.on d1,.l a2 x.hn c2,.l a3 x.tn c3]):=RB.vset Za (Uw _ _ _ _ _ _);have F0:AP (λq=>q=w.1.size) w1 (w1.setCell ⟨w.1.size,2,none⟩ (.l ad1 x.on d1)):=AP.setCell (P:=λq=>q=w.1.size) (AP.refl _ _) (by rfl) _;have rz2:=RZ.fr F0 Za;have b0:Below w.1.size w (w1.setCell ⟨w.1.size,2,none⟩ (.l ad1 x.on d1)):=B1.setCell Bj _;have z0:w.1.size+2<=(w1.setCell ⟨w.1.size,2,none⟩ (.l ad1 x.on d1)).1.size:=by simpa using z1
 have at2:=AT1.fr F0 (λq hq e=>by have:=sD q hq;omega);generalize hV:w1.setCell ⟨w.1.size,2,none⟩ (.l ad1 x.on d1)=V at*;have CPO:=Ai at2;have RBB:=Ai rb2;have RZZ:=Ai rz2;clear RB RZ B1 F0 z1 p0 p1 p2 p3 p4 pf AT1 rb2 rz2 at2 hV;obtain⟨p0,p1,p2,p3,p4⟩:=I6 RBB;have pf:=RBB.free;refine(Tf x.hn cc a2 c2 _ lo hi Za Za (SC.below b0 hhi)).mono ?_;rintro e w5 ⟨ad2,d2,rfl,hcp2,hr5,hb5⟩;have vP:=Ai hcp2;clear hcp2;have z5:=hb5.size;have hVz:w.1.size<V.1.size:=Za;have rb5:AH (w5.setCell ⟨w.1.size,3,none⟩ (.l ad2 x.hn d2)) w.1.size 5 (Bg [.i x.now,.i x.floor,.l ad1 x.on d1,.l ad2 x.hn d2,.l a3 x.tn c3]):=(RBB.below hb5 hVz).vset Za (eE _ _ _ _ _ _);have F5:AP (λq=>q=w.1.size) w5 (w5.setCell ⟨w.1.size,3,none⟩ (.l ad2 x.hn d2)):=AP.setCell (P:=λq=>q=w.1.size) (AP.refl _ _) (by rfl) _;have rz5:=(RZZ.below hb5 Za).fr F5 Za;have cp5:LM (w5.setCell ⟨w.1.size,3,none⟩ (.l ad2 x.hn d2)) V.1.size x.hn 0 x.hs Ac Ac Cc (λ_=>0):=⟨λh0=>⟨cc,(hr5 h0).2.fr F5 Za,AC⟩,λ_ _ _=>rfl,λi hi=>absurd hi (Al _),λi hi=>absurd hi (Al _),λi j hi=>absurd hi (Al _)⟩;have FV:AP (λq=>q=w.1.size) V (w5.setCell ⟨w.1.size,3,none⟩ (.l ad2 x.hn d2)):=(Aq hb5).trans F5;have rX:Hid (0<x.hn->ad2=some ⟨V.1.size,0,none⟩):=λh0=>(hr5 h0).1;have q3:=(RBB.below hb5 hVz).cell 3 Za;have qf:=(RBB.below hb5 hVz).free;clear p0 p1 p2 p3 p4 pf hr5 F5 RBB RZZ;go_wp2;clear q3 qf;go_loopw[16](λi wr=>∃(k:Nat)(A:Nat->Option Addr)(C hb:Nat->Nat),k<=x.hn/\i=.i k/\AP (λq=>q=w.1.size) V wr/\AH wr w.1.size 5 (Bg [.i x.now,.i x.floor,.l ad1 x.on d1,.l ad2 x.hn d2,.l a3 x.tn c3])/\AH wr (w.1.size+1) 5 (Bg [.i 0,.i 0,.l none 0 0,.l none 0 0,.l none 0 0])/\LM wr V.1.size x.hn k x.hs Ac A C hb)(λi _=>x.hn-(intOf i).toNat);case atStart=>exact⟨0,_,_,_,Ap _,rfl,FV,rb5,rz5,cp5⟩
 case round=>
  obtain⟨k,A2,C2,hb2',hk2,rfl,f0,rb,rz,cp⟩:=hrel;clear FV rb5 rz5 cp5;have zv:=f0.size;have bV:Below w.1.size w wr:=b0.trans (f0.below (λq hq=>by omega) Za);by_cases hkn:k<x.hn
  .obtain⟨c,rr,hat⟩:=cp.row Za;have hA:=rX Za;subst hA;obtain⟨t0,t1,t2,t3,t4,t5,t6,t7,t8⟩:=hat k hkn;have d0:=(rr.cell (k*9) Za).trans (congrArg some t0);have d1:=(rr.cell (k*9+1) Za).trans (congrArg some t1);have d2:=(rr.cell (k*9+2) Za).trans (congrArg some t2);have d3:=(rr.cell (k*9+3) Za).trans (congrArg some t3);have d4:=(rr.cell (k*9+4) Za).trans (congrArg some t4);have d5:=(rr.cell (k*9+5) Za).trans (congrArg some t5);have d6:=(rr.cell (k*9+6) Za).trans (congrArg some t6);have d7:=(rr.cell (k*9+7) Za).trans (congrArg some t7);have d8:=(rr.cell (k*9+8) Za).trans (congrArg some t8);have hsrc:=HC k hkn;rw[<-cp.src k Bj hkn]at hsrc;have sG:=Ai hsrc;have hfk:((x.hs k).ob.hn:Int)<=8796093022208:=(F5h k hkn).h;have RBB:=Ai rb;have RZZ:=Ai rz;have CP:=Ai cp;have RR:=Ai rr;obtain⟨p0,p1,p2,p3,p4⟩:=I6 rb;clear t0 t1 t2 t3 t4 t5 t6 t7 t8 hsrc rb rz cp rr hat;go_wp2;have hwz:w.1.size<wr.1.size:=Za;have vz:V.1.size<wr.1.size:=RR.lt;go_region_with(go_at_call 94;go_must(refine(Vi (x.hs k) (A2 k) (C2 k) _ lo hi Zd hfk (by exact sG.below ((bV.alloc bV.size _).drew) hhi)).mono ?_;rintro e w2 ⟨ad',cap',b',rfl,hb',hlt',ho',hb2⟩;have hb3:Below wr.1.size wr w2:=(((Ae _ _).drew).trans (hb2.mono Ze));have r3:=RBB.below hb3 hwz;obtain⟨q0,q1,q2,q3,q4⟩:=I6 r3;have rg:=RR.below hb3 RR.lt;have s0:=rg.cell (k*9) Za;have s1:=rg.cell (k*9+1) Za;have s2:=rg.cell (k*9+2) Za;have s3:=rg.cell (k*9+3) Za;have s4:=rg.cell (k*9+4) Za;have s5:=rg.cell (k*9+5) Za;have s6:=rg.cell (k*9+6) Za;have s7:=rg.cell (k*9+7) Za;have s8:=rg.cell (k*9+8) Za;have sf:=rg.free;have E3:=Ai hb3;have wA:=Ai ho';have wX:=Ai hlt';have wZ:=Ai hb';clear r3 rg hb3 ho' hlt' hb' hb2));all_goals
    have hbb:wr.1.size<=b':=by have:=wZ.out;simp at this;omega
    have CPP:=Ai (CP.put hkn E3 (cap':=cap') hbb wX wA);have hz3:=E3.size;have e0:w2.cell? ⟨V.1.size,k*9,none⟩=some (.i (x.hs k).ver):=(E3.cell (p:=⟨V.1.size,k*9,none⟩) vz).trans d0;have e1:w2.cell? ⟨V.1.size,k*9+1,none⟩=some (.bool (x.hs k).gone):=(E3.cell (p:=⟨V.1.size,k*9+1,none⟩) vz).trans d1;rw[Pi e0,Pi e1];clear p0 p1 p2 p3 p4 q0 q1 q2 q3 q4 s0 s1 s2 s3 s4 s5 s6 s7 s8 sf d0 d1 d2 d3 d4 d5 d6 d7 d8;go_wp2;go_roundw;case rel=>
     refine⟨k+1,_,_,_,Za,by go_num,?_,AH.fr (P:=λq=>q=V.1.size) (RBB.below E3 hwz) ?_ Za,AH.fr (P:=λq=>q=V.1.size) (RZZ.below E3 Za) ?_ Za,CPP⟩
     .iterate 7 refine Io ?_ (AD Bj) _
      exact f0.trans (Aq E3)
     .iterate 7 refine AP.setCell (P:=λq=>q=V.1.size) ?_ (by rfl) _
      exact AP.refl _ _
     .iterate 7 refine AP.setCell (P:=λq=>q=V.1.size) ?_ (by rfl) _
      exact AP.refl _ _
    case measure=>simp[intOf];omega
  .have hke:k=x.hn:=Za;subst hke;have CPC:=Ai cp;have CPO2:=Ai (CPO.fr f0 (λq h1 h2=>by have:=sD q h1;omega));have RBB:=Ai rb;have RZZ:=Ai rz;obtain⟨p0,p1,p2,p3,p4⟩:=I6 rb;have pf:=rb.free;clear rb rz cp;go_wp2_with fail;refine(TI x.tn ct a3 c3 _ lo hi Za Za (STT.below bV hhi)).mono ?_;rintro e w7 ⟨ad3,d3,rfl,hcp3,hr7,hb7⟩;have wS:=Ai hcp3;clear hcp3;have z7:=hb7.size;have hwz:w.1.size<wr.1.size:=Za;have R7:=Ai ((RBB.below hb7 hwz).vset (o:=4) (v:=(.l ad3 x.tn d3)) (l':=[.i x.now,.i x.floor,.l ad1 x.on d1,.l ad2 x.hn d2,.l ad3 x.tn d3]) Za (pR _ _ _ _ _ _));have oQ:=Ai hr7;obtain⟨q0,q1,q2,q3,q4⟩:=I6 (RBB.below hb7 hwz);have qf:=(RBB.below hb7 hwz).free;have rz7:=RZZ.below hb7 Za;obtain⟨y0,y1,y2,y3,y4⟩:=I6 rz7;have yf:=rz7.free;have CO7:=Ai (CPO2.grow hb7);have CC7:=Ai (CPC.grow hb7);have BV7:=Ai (bV.trans (hb7.mono bV.size));clear p0 p1 p2 p3 p4 pf hr7 rz7 RBB RZZ;go_wp2;have hlt7:w.1.size+1<w7.1.size:=Za;refine bodyPost_ret (v:=.agg (vB x ad1 ad2 ad3 d1 d2 d3)) (by simp[results,results42,go_sem,y0,y1,y2,y3,y4]) rfl ⟨⟨ad1,ad2,ad3,g1,V.1.size,wr.1.size,A,C,hb,A2,C2,hb2'⟩,d1,d2,d3,rfl,⟨sY.out.1,sY.out.2,vP,wS⟩,?_,?_,?_⟩
   .have FF:∀W,AP (λq=>q=w.1.size\/q=w.1.size+1) w7 W->CZ W x ⟨ad1,ad2,ad3,g1,V.1.size,wr.1.size,A,C,hb,A2,C2,hb2'⟩:=λW F=>⟨CO7.fr F (λq h1 h2=>by have:=sD q h1;omega),(CC7.fr F (λq h1 _ h2=>by omega)).done rX,⟨λh0=>(oQ h0).1,λh0=>⟨ct,(oQ h0).2.fr F Za,AT⟩⟩,λk h1 h2=>by have e1:=(show w.1.size+2<=k/\k<V.1.size from⟨sD k h1,CPO.blt h1⟩);have e2:=CPC.rng h2;omega,λk h1 h2=>by have e1:=(show w.1.size+2<=k/\k<V.1.size from⟨sD k h1,CPO.blt h1⟩);have e2:k=wr.1.size:=h2.2;omega,λk h1 h2=>by have e1:=CPC.rng h1;have e2:k=wr.1.size:=h2.2;omega⟩;refine FF _ ?_;iterate 6 refine AP.setCell (P:=λq=>q=w.1.size\/q=w.1.size+1) ?_ Ze _
    exact AP.refl _ _
   .intro k hk;rcases hk with h1|h1|h1;.have e1:=(show w.1.size+2<=k/\k<V.1.size from⟨sD k h1,CPO.blt h1⟩);omega
    .have e1:=CPC.rng h1;omega
    .have e1:k=wr.1.size:=h1.2;omega
   .iterate 6 refine AJ ?_ Ze _
    exact BV7
end Go.Proofs.YtllmmkchokkaaaaGreatDoor
