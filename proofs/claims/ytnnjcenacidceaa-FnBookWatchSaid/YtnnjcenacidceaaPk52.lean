import Derived.Test.YtnnjcenacidceaaPk51
import Derived.Deep.Light
import Derived.Deep.RegionWith
import Derived.Test.YtnnjcenacidceaaPk33
set_option maxRecDepth 100000
set_option maxHeartbeats 4000000
namespace Go.Proofs.Ytnnjcenacidceaa
open Go.RowKit Go.Proofs.Try
structure wJ (w Y:World)(R:Nat)(ad:OA)(nn cap p:Nat)(T:Nat)(y:Bk)(b1 b2 b3:OA)(e1 e2 e3:Nat):Prop where
 c0:Y.cell? ⟨T,0,none⟩=some (.int .i64 y.now)c1:Y.cell? ⟨T,1,none⟩=some (.int .i64 y.floor)c2:Y.cell? ⟨T,2,none⟩=some (.slice b1 y.on e1)c3:Y.cell? ⟨T,3,none⟩=some (.slice b2 y.hn e2)c4:Y.cell? ⟨T,4,none⟩=some (.slice b3 y.tn e3)i:BF Y 0 Y.1.size y b1 b2 b3
 f:Az (λq=>q=R) w Y
 r:Rd Y R ad nn cap p
theorem mU{w X:World}{R:Nat}{ad:OA}{nn cap p p' T:Nat}{y:Bk}{b1 b2 b3:OA}{l:List Value}(e1 e2 e3:Nat)(hw:Rd w R ad nn cap p)(hT:w.1.size<=T)(ha:AN X T 5 (AR l))(han:MG X T)(hin:BF X 0 X.1.size y b1 b2 b3)(hf:Az (λq=>q=R) w X)(hrd:Rd X R ad nn cap p'):wJ w (((((X.setCell ⟨T,0,none⟩ (.int .i64 y.now)).setCell ⟨T,1,none⟩ (.int .i64 y.floor)).setCell ⟨T,2,none⟩ (.slice b1 y.on e1)).setCell ⟨T,3,none⟩ (.slice b2 y.hn e2)).setCell ⟨T,4,none⟩ (.slice b3 y.tn e3)) R ad nn cap p' T y b1 b2 b3 e1 e2 e3:=by
 have F:=(((((Az.refl (λq=>q=T) X).setCell (p:=⟨T,0,none⟩) rfl (.int .i64 y.now)).setCell (p:=⟨T,1,none⟩) rfl (.int .i64 y.floor)).setCell (p:=⟨T,2,none⟩) rfl (.slice b1 y.on e1)).setCell (p:=⟨T,3,none⟩) rfl (.slice b2 y.hn e2)).setCell (p:=⟨T,4,none⟩) rfl (.slice b3 y.tn e3);have Z:=((((ha.set (o:=0) Zb (.int .i64 y.now)).set (o:=1) Zb (.int .i64 y.floor)).set (o:=2) Zb (.slice b1 y.on e1)).set (o:=3) Zb (.slice b2 y.hn e2)).set (o:=4) Zb (.slice b3 y.tn e3);have y0:=Z.cell 0 Zb;have y1:=Z.cell 1 Zb;have y2:=Z.cell 2 Zb;have y3:=Z.cell 3 Zb;have y4:=Z.cell 4 Zb;simp only[L1,Nat.reduceEqDiff,if_true,if_false]at y0 y1 y2 y3 y4;refine⟨y0,y1,y2,y3,y4,(hin.box F han uK).upTo F.size,?_,?_⟩;.exact((((hf.far hT _ _).far hT _ _).far hT _ _).far hT _ _).far hT _ _
 .exact hw.far (hw.far (hw.far (hw.far (hw.far hrd hT _ _) hT _ _) hT _ _) hT _ _) hT _ _
theorem sY{X:World}{T:Nat}{y:Bk}{b1 b2 b3:OA}{l:List Value}(e1 e2 e3:Nat)(ha:AN X T 5 (AR l))(han:MG X T)(hin:BF X 0 X.1.size y b1 b2 b3):∃Y,Y=(((((X.setCell ⟨T,0,none⟩ (.int .i64 y.now)).setCell ⟨T,1,none⟩ (.int .i64 y.floor)).setCell ⟨T,2,none⟩ (.slice b1 y.on e1)).setCell ⟨T,3,none⟩ (.slice b2 y.hn e2)).setCell ⟨T,4,none⟩ (.slice b3 y.tn e3))/\AN Y T 5 (AR [.int .i64 y.now,.int .i64 y.floor,.slice b1 y.on e1,.slice b2 y.hn e2,.slice b3 y.tn e3])/\BF Y 0 Y.1.size y b1 b2 b3/\Az (λq=>q=T) X Y:=by have F:=(((((Az.refl (λq=>q=T) X).setCell (p:=⟨T,0,none⟩) rfl (.int .i64 y.now)).setCell (p:=⟨T,1,none⟩) rfl (.int .i64 y.floor)).setCell (p:=⟨T,2,none⟩) rfl (.slice b1 y.on e1)).setCell (p:=⟨T,3,none⟩) rfl (.slice b2 y.hn e2)).setCell (p:=⟨T,4,none⟩) rfl (.slice b3 y.tn e3);have Z:=((((ha.set (o:=0) Zb (.int .i64 y.now)).set (o:=1) Zb (.int .i64 y.floor)).set (o:=2) Zb (.slice b1 y.on e1)).set (o:=3) Zb (.slice b2 y.hn e2)).set (o:=4) Zb (.slice b3 y.tn e3);refine⟨_,rfl,Z.congr λj hj=>?_,(hin.box F han uK).upTo F.size,F⟩;rcases(show j=0\/j=1\/j=2\/j=3\/j=4 by omega)with rfl|rfl|rfl|rfl|rfl<;>rfl
def bj (R:Nat)(ad:OA)(nn cap p:Nat)(w:World)(e:Ending)(w':World):Prop:=∃(y:Bk)(b1 b2 b3:OA)(e1 e2 e3:Nat),e=.returned (.agg #[.int .i64 y.now,.int .i64 y.floor,.slice b1 y.on e1,.slice b2 y.hn e2,.slice b3 y.tn e3])/\BF w' 0 w'.1.size y b1 b2 b3/\BL y/\Dn R ad nn cap p 205000 w w'
structure uO (w:World)(R:Nat)(ad:OA)(nn cap p:Nat)(Y:Bk)(b1 b2 b3:OA)(k1 k2 k3 T:Nat)(X:World):Prop where
 f:Az (λq=>q=R) w X
 r:Rd X R ad nn cap p
 a:AN X w.1.size 5 (AR [.int .i64 0,.int .i64 0,.slice none 0 0,.slice none 0 0,.slice none 0 0])an:MG X w.1.size
 t:AN X T 5 (AR [.int .i64 Y.now,.int .i64 Y.floor,.slice b1 Y.on k1,.slice b2 Y.hn k2,.slice b3 Y.tn k3])v:L4 X Y b1 b2 b3 k3
 T0:w.1.size<T
theorem uO.pick{w X Z:World}{R:Nat}{ad:OA}{nn cap p p':Nat}{Y:Bk}{b1 b2 b3:OA}{k1 k2 k3 T:Nat}(h:uO w R ad nn cap p Y b1 b2 b3 k1 k2 k3 T X)(hR:R<w.1.size)(hf:Az (λq=>q=R) X Z)(hr:Rd Z R ad nn cap p'):uO w R ad nn cap p' Y b1 b2 b3 k1 k2 k3 T Z:=⟨h.f.trans hf,hr,h.a.fr2 hf Za,h.an.fr hf h.a.lt Za,h.t.fr2 hf (by have:=h.T0;omega),h.v.pick hf h.r.ns,h.T0⟩
theorem YA (R:Nat)(ad:OA)(nn cap p:Nat)(w:World)(hr:Rd w R ad nn cap p)(hp:p<=100)(had:∀b off,ad=some ⟨b,off,none⟩->b<w.1.size):Calls prog 24 #[.pointer (some ⟨R,0,none⟩)] w λe w'=>bj R ad nn cap p w e w':=by
 have hRw:=hr.lt;have HR:=Ah hr;have Sy:=Ah had;have HA:=Ah (AN.new (w:=w) (l:=[.int .i64 0,.int .i64 0,.slice none 0 0,.slice none 0 0,.slice none 0 0]) (t:=27) EF);have HN:=Ah (SW w);have WS:=Ah (hr.below (An w (.cells #[.int .i64 0,.int .i64 0,.slice none 0 0,.slice none 0 0,.slice none 0 0] 27)));clear hr had;go_enter func24,ntmps24;go_upto_region 2 with(go_at_call 43;go_must(refine(Ws R ad nn cap p _ WS hp).mono ?_;rintro e w2 ⟨Y,b1,b2,b3,k1,k2,k3,rfl,hV,hf2,p2,hp1,hp2,hr2⟩));have hB3:=An w2 (.cells #[.int .i64 Y.now,.int .i64 Y.floor,.slice b1 Y.on k1,.slice b2 Y.hn k2,.slice b3 Y.tn k3] 27);have zw:=hf2.size;have yI:Az (λq=>q=R) w w2:=(Aq (An w (.cells #[.int .i64 0,.int .i64 0,.slice none 0 0,.slice none 0 0,.slice none 0 0] 27))).trans hf2;have ha2:=HA.fr2 hf2 Za;have hn2:=HN.fr hf2 HA.lt (by show¬w.1.size=R;omega);rw[Aw]at zw;have HS:=Ah (show uO w R ad nn cap p2 Y b1 b2 b3 k1 k2 k3 w2.1.size (w2.alloc (.cells #[.int .i64 Y.now,.int .i64 Y.floor,.slice b1 Y.on k1,.slice b2 Y.hn k2,.slice b3 Y.tn k3] 27))from⟨yI.trans (Aq hB3),hr2.below hB3,ha2.below hB3 ha2.lt,hn2.below hB3 ha2.lt,AN.new (l:=[.int .i64 Y.now,.int .i64 Y.floor,.slice b1 Y.on k1,.slice b2 Y.hn k2,.slice b3 Y.tn k3]) (t:=27) EF,hV.below hB3,Za⟩);generalize w2.alloc (.cells #[.int .i64 Y.now,.int .i64 Y.floor,.slice b1 Y.on k1,.slice b2 Y.hn k2,.slice b3 Y.tn k3] 27)=X at HS⊢;generalize w2.1.size=T at HS⊢;clear hB3 zw yI ha2 hn2 hV hf2 hr2 HA HN WS;go_wp2_with (first
  |(go_at_call 12;go_must(refine(A7 R ad nn cap _ 16 _ HS.r Za Zb Zb).mono ?_;rintro e w4 ⟨v,rfl,_,hv,hf4,hr4⟩;have CP:=Ah (HS.pick hRw hf4 hr4);clear HS hf4 hr4;have t0:=CP.t.cell 0 Zb;have t1:=CP.t.cell 1 Zb;have t2:=CP.t.cell 2 Zb;have t3:=CP.t.cell 3 Zb;have t4:=CP.t.cell 4 Zb;simp only[AR,Aa,Ab]at t0 t1 t2 t3 t4;have g0:=CP.a.cell 0 Zb;have g1:=CP.a.cell 1 Zb;have g2:=CP.a.cell 2 Zb;have g3:=CP.a.cell 3 Zb;have g4:=CP.a.cell 4 Zb;simp only[AR,Aa,Ab]at g0 g1 g2 g3 g4;have tl:=CP.t.lt;have gl:=CP.a.lt;have gf:=CP.a.free))
  |(go_at_call 44;go_must(refine(Vc Y b1 b2 b3 k1 k2 k3 R ad nn cap _ _ CP.r Za CP.v (λb off e=>Ac (Sy b off e) CP.f.size)).mono ?_;rintro e w5 ⟨y,d1,d2,d3,e1,e2,e3,rfl,hin,hfit,hf5,p5,q1,q2,hr5⟩;have m9:=Ah (CP.a.fr2 hf5 Za);have ao:=Ah (CP.an.fr hf5 CP.a.lt (by show¬w.1.size=R;omega));have yT:=Ah (CP.f.trans hf5);have z9:=Ah hin;have rT:=Ah hfit;have zC:=Ah hr5;clear t0 t1 t2 t3 t4 g0 g1 g2 g3 g4 gf gl tl hin hf5 hr5 hfit;have g0:=m9.cell 0 Zb;have g1:=m9.cell 1 Zb;have g2:=m9.cell 2 Zb;have g3:=m9.cell 3 Zb;have g4:=m9.cell 4 Zb;simp only[AR,Aa,Ab]at g0 g1 g2 g3 g4;have gl:=m9.lt;have gf:=m9.free)));.have Z:=mU e1 e2 e3 HR uK m9 ao z9 yT zC;obtain⟨z0,z1,z2,z3,z4,zi,zf,zr⟩:=Z;exact bodyPost_ret (v:=.agg #[.int .i64 y.now,.int .i64 y.floor,.slice d1 y.on e1,.slice d2 y.hn e2,.slice d3 y.tn e3]) (by simp[results,results24,go_sem,z0,z1,z2,z3,z4]) rfl ⟨y,d1,d2,d3,e1,e2,e3,rfl,zi,rT,zf,p5,Za,Za,zr⟩
 .have Z:=mU k1 k2 k3 HR uK CP.a CP.an CP.v.i CP.f CP.r;obtain⟨z0,z1,z2,z3,z4,zi,zf,zr⟩:=Z;exact bodyPost_ret (v:=.agg #[.int .i64 Y.now,.int .i64 Y.floor,.slice b1 Y.on k1,.slice b2 Y.hn k2,.slice b3 Y.tn k3]) (by simp[results,results24,go_sem,z0,z1,z2,z3,z4]) rfl ⟨Y,b1,b2,b3,k1,k2,k3,rfl,zi,CP.v.f,zf,_,Za,Za,zr⟩
def L3 (w:World)(ad:OA)(n:Nat):Prop:=∀i,i<n->∃b off v,ad=some ⟨b,off,none⟩/\b<w.1.size/\w.cell? ⟨b,off+i,none⟩=some (.int .u8 v)/\0<=v/\v<256
theorem eT (w:World)(ad:OA)(n cap:Nat)(hn:n<=2000)(hb:L3 w ad n):Rd (w.alloc (.cells #[.slice ad n cap,.int .i64 0] 62)) w.1.size ad n cap 0:=by
 refine⟨by simp ,by simp ,Zc,Zc,hn,λi hi=>?_,λj s e=>?_⟩;.obtain⟨b,off,v,e1,e2,e3,e4,e5⟩:=hb i hi;exact⟨b,off,v,e1,Zd,Za,((An w _).cell (p:=⟨b,off+i,none⟩) e2).trans e3,e4,e5⟩
 .rw[Ak]at e;rcases j with _|_|j<;>simp at e
theorem RN (ad:OA)(n cap:Nat)(w:World)(hn:(n:Int)<=1048576)(hc:n<=cap)(hb:L3 w ad n):Calls prog 10 #[.slice ad n cap] w λe w'=>∃n' cap',e=.returned (.pointer (some ⟨w.1.size,0,none⟩))/\Rd w' w.1.size ad n' cap' 0/\Below w.1.size w w':=by
 by_cases h:n<=2000;.have HR:=Ah (eT w ad n cap h hb);clear hb;go_enter func10,ntmps10;go_wp2_with fail;go_ret;exact⟨n,cap,rfl,HR,An _ _⟩
 .obtain⟨b,off,v,rfl,hlt,_⟩:=hb 0 Za;have HR:=Ah (eT w (some ⟨b,off,none⟩) 2000 cap uK (λi hi=>hb i Za));clear hb;go_enter func10,ntmps10;go_wp2_with fail;go_ret;exact⟨2000,cap,rfl,HR,An _ _⟩
def Oj (c:Nat->Nat)(l:Array Bool):Nat->Nat
 |0=>0
 |n+1=>Oj c l n+if l.getD n false=true then c n else 0
def kC (c:Nat->Nat):Nat->Nat
 |0=>0
 |n+1=>kC c n+c n
theorem Xf (c:Nat->Nat)(l:Array Bool):∀n,Oj c l n<=kC c n
 |0=>AD _
 |n+1=>by have:=Xf c l n;show Oj c l n+_<=kC c n+c n;split<;>omega
theorem SY (c:Nat->Nat)(l:Array Bool)(h:∀i,l.getD i false=false):∀n,Oj c l n=0
 |0=>rfl
 |n+1=>by show Oj c l n+_=0;rw[SY c l h n,h n];rfl
theorem S9{c:Nat->Nat}{l l':Array Bool}:∀{n:Nat},(∀j,j<n->l'.getD j false=l.getD j false)->Oj c l' n=Oj c l n
 |0,_=>rfl
 |n+1,h=>by show Oj c l' n+_=Oj c l n+_;rw[S9 (λj hj=>h j Za),h n Za]
theorem UI{c:Nat->Nat}{l:Array Bool}{i:Nat}(hi:i<l.size)(h:l.getD i false=false):∀{n:Nat},i<n->Oj c (l.setIfInBounds i true) n=Oj c l n+c i
 |0,h0=>absurd h0 (Aj _)
 |n+1,h0=>by
  show Oj c (l.setIfInBounds i true) n+_=Oj c l n+_+c i;by_cases e:i=n;.subst e;rw[S9 (l:=l) (λj hj=>by rw[BT hi,if_neg Za]),BT hi,if_pos rfl,h];simp
  .have g:(l.setIfInBounds i true).getD n false=l.getD n false:=by rw[BT hi,if_neg (λe'=>e e'.symm)]
   rw[UI hi h (by omega:i<n),g];generalize(if l.getD n false=true then c n else 0)=z;omega
def bx (n:Nat)(c:Nat->Nat)(mk:(Nat->Value)->Array Value)(W:World)(R:Nat)(ad:OA)(nn cap p:Nat)(U:Nat->Prop)(J:World->Prop)(G:Nat->Value->World->Prop)(l:Array Bool)(a:Act)(X:World):Prop:=l.size=n/\∃t:Nat->Value,a=⟨mk t,[]⟩/\Az U W X/\(∃p',p<=p'/\p'<=p+Oj c l n/\Rd X R ad nn cap p')/\J X/\∀i,i<n->l.getD i false=true->G i (t i) X
theorem Vh{P:Program}{id:Nat}{ops:Array Oper}{Q:Exit->Act->World->Prop}{a0:Act}{W:World}(hm:P.follows .mixedOrders=true)(n tot:Nat)(c:Nat->Nat)(mk:(Nat->Value)->Array Value)(t0:Nat->Value)(R:Nat)(ad:OA)(nn cap p:Nat)(U:Nat->Prop)(D:Nat->Nat->Prop)(J:World->Prop)(G:Nat->Value->World->Prop)(hn:ops.size=n)(hord:((List.range ops.size).all λi=>match ops[i]? with|some o=>o.after.all (λe=>!(Region.binds .any e)||decide (e.on<i))|none=>true)=true)(hT:kC c n=tot)(hU:∀i q,D i q->U q)(st:∀i j v X Y p',i<n->j<n->¬i=j->G i v X->J X->Az (D j) X Y->Rd X R ad nn cap p'->W.1.size<=X.1.size->G i v Y)(h0:a0=⟨mk t0,[]⟩)(hr:Rd W R ad nn cap p)(hJ:J W.drew)(sg:∀i,i<n->∀(t:Nat->Value) X K p',Az U W X->p<=p'->p'+c i<=p+tot->Rd X R ad nn cap p'->J X->(∀j,BE ops i j->G j (t j) X)->(∀v Y p2,p'<=p2->p2<=p'+c i->G i v Y->Az (D i) X Y->Rd Y R ad nn cap p2->J Y->K ⟨mk (Av t i v),[]⟩ Y)->wpOp P ops Q i K ⟨mk t,[]⟩ X)(hfin:∀(t:Nat->Value) X p',Az U W X->p<=p'->p'<=p+tot->Rd X R ad nn cap p'->J X->(∀i,i<n->G i (t i) X)->Q .normal ⟨mk t,[]⟩ X):(Code.region id ops true).wp P Q a0 W:=by
 have hdep:∀i j,i<n->BE ops i j->j<n:=by
  rintro i j hi ⟨o,ho,e,he,hb,rfl⟩;have h1:=AZ.1 hord i (Bd.2 Za);rw[ho]at h1;have h2:=AU.1 h1 e he;rw[hb]at h2;have:e.on<i:=by simpa using h2
  omega
 have hcl:∀l:Array Bool,Oj c l n<=tot:=λl=>hT▸Xf c l n;refine Cs hm (bx n c mk W R ad nn cap p U J G) ?_ ?_ ?_ ?_
 .have hz:∀i,(Array.replicate ops.size false).getD i false=false:=λi=>by simp[Array.getD]
  exact⟨by simp[hn],t0,h0,Aq (Ao _ _).drew,⟨p,AD _,by rw[SY c _ hz];exact AD _,hr.below (Ao _ _).drew⟩,hJ,λi _ h=>by rw[hz]at h;cases h⟩
 .rintro l a X ⟨hs,_⟩;rw[hs,hn]
 .rintro l a X ⟨hs,t,rfl,hb,⟨p',q1,q2,hrd⟩,hj,gg⟩ hr';have AL:=Mj hord (by rw[hs,hn]) hr';have:=hcl l;exact hfin t X p' hb q1 Za hrd hj (λi hi=>gg i hi (AL i Za))
 .rintro l a X i ⟨hs,t,rfl,hb,⟨p',q1,q2,hrd⟩,hj,gg⟩ hr';obtain⟨hu,o,ho,hall⟩:=mem_ready.1 hr';have di:∀j,BE ops i j->l.getD j false=true:=by
   rintro j ⟨o',ho',e,he,hb,rfl⟩;rw[ho]at ho';obtain rfl:o=o':=by simpa using ho'
   exact hall e he hb
  have hi7:i<n:=by
   rcases Au i n with h|h;.exact h
   .rw[A9 Za]at ho;cases ho
  have hui:l.getD i false=false:=by have:l.getD i true=false:=hu;simpa[Array.getD,hs,hi7]using this
  have kp:∀j,¬j=i->(l.setIfInBounds i true).getD j false=l.getD j false:=λj hj=>by rw[BT Za,if_neg hj]
  have hs':(l.setIfInBounds i true).size=n:=by simp[hs]
  have hc:=UI (c:=c) Za hui hi7;have hcn:=hcl (l.setIfInBounds i true);clear hr' hu ho;refine sg i hi7 t X _ p' hb q1 Za hrd hj (λj hj=>gg j (hdep i j hi7 hj) (di j hj)) (λv Y p2 r1 r2 hv hY hrY hjY=>⟨hs',Av t i v,rfl,hb.trans (hY.mono (λq h=>hU i q h)),⟨p2,Za,Za,hrY⟩,hjY,λj j1 h=>?_⟩);by_cases e:j=i;.subst e;rw[Bp];exact hv
  .rw[kp j e]at h;rw[BB e];exact st j i _ _ _ _ j1 hi7 e (gg j j1 h) hj hY hrd hb.size
structure tD (w w':World)(C:Nat):Prop where
 f:Az (λq=>q=C) w w'
 s:∀j s,w.cell? ⟨C,j,none⟩=some (.string s)->∃s',w'.cell? ⟨C,j,none⟩=some (.string s')/\(s'.size:Int)<=140737488355328
 n:∀j b,¬w.cell? ⟨C,j,none⟩=some (.bool b)i:∀j u,3<=j->¬w.cell? ⟨C,j,none⟩=some u
def jE (w:World)(ad:OA)(i:Nat):ByteArray:=match ad with
 |some a=>(match w.cell? ⟨a.block,a.off+i,none⟩with|some (.string s)=>s|_=>ByteArray.empty)
 |none=>ByteArray.empty
theorem tD.strs{w w':World}{C lo hi n:Nat}{ad:OA}{s:Nat->ByteArray}(h:tD w w' C)(hh:hi<=w.1.size)(hs:AB w lo hi ad n s)(hz:∀i,i<n->((s i).size:Int)<=140737488355328):AB w' lo hi ad n (jE w' ad)/\∀i,i<n->((jE w' ad i).size:Int)<=140737488355328:=by
 have key:∀i,i<n->∃b off,ad=some ⟨b,off,none⟩/\lo<=b/\b<hi/\w'.cell? ⟨b,off+i,none⟩=some (.string (jE w' ad i))/\((jE w' ad i).size:Int)<=140737488355328:=λi hi'=>by
  obtain⟨b,off,rfl,e2,e3,e4⟩:=hs i hi';by_cases e:b=C
  .subst e;obtain⟨s',k1,k2⟩:=h.s _ _ e4;have r:jE w' (some ⟨b,off,none⟩) i=s':=by simp[jE,k1]
   exact⟨b,off,rfl,e2,e3,by rw[r];exact k1,by rw[r];exact k2⟩
  .have k1:w'.cell? ⟨b,off+i,none⟩=some (.string (s i)):=(h.f.cell (p:=⟨b,off+i,none⟩) Zk e).trans e4;have r:jE w' (some ⟨b,off,none⟩) i=s i:=by simp[jE,k1]
   exact⟨b,off,rfl,e2,e3,by rw[r];exact k1,by rw[r];exact hz i hi'⟩
 refine⟨λi hi'=>?_,λi hi'=>?_⟩
 .obtain⟨b,off,e1,e2,e3,e4,_⟩:=key i hi';exact⟨b,off,e1,e2,e3,e4⟩
 .obtain⟨_,_,_,_,_,_,e⟩:=key i hi';exact e
theorem tD.book{w w':World}{C lo hi:Nat}{x:Bk}{a1 a2 a3:OA}(h:tD w w' C)(hh:hi<=w.1.size)(hx:BF w lo hi x a1 a2 a3)(hf:BL x):∃y:Bk,(y.now=x.now/\y.floor=x.floor)/\(y.on=x.on/\y.hn=x.hn/\y.tn=x.tn)/\BF w' lo hi y a1 a2 a3/\BL y:=by classical
 have hA:∀i,∃ah:Option Addr,i<x.on->∃b off ch,a1=some ⟨b,off,none⟩/\lo<=b/\b<hi/\LK w b (off+i*7) (x.os i) ah ch/\AB w lo hi ah (x.os i).hn (x.os i).hs:=λi=>by
  by_cases hi':i<x.on
  .obtain⟨b,off,ah,ch,e⟩:=hx.o i hi';exact⟨ah,λ_=>⟨b,off,ch,e⟩⟩
  .exact⟨none,λe=>absurd e hi'⟩
 have hB:∀i,∃ah:Option Addr,i<x.hn->∃b off ch,a2=some ⟨b,off,none⟩/\lo<=b/\b<hi/\Dk w b (off+i*9) (x.hs i) ah ch/\AB w lo hi ah (x.hs i).ob.hn (x.hs i).ob.hs:=λi=>by
  by_cases hi':i<x.hn
  .obtain⟨b,off,ah,ch,e⟩:=hx.h i hi';exact⟨ah,λ_=>⟨b,off,ch,e⟩⟩
  .exact⟨none,λe=>absurd e hi'⟩
 obtain⟨A,hA⟩:=Classical.axiomOfChoice hA;obtain⟨B,hB⟩:=Classical.axiomOfChoice hB;have far:∀b j u,b<hi->w.cell? ⟨b,j,none⟩=some u->¬b=C->w'.cell? ⟨b,j,none⟩=some u:=λb j u hb hc e=>(h.f.cell (p:=⟨b,j,none⟩) Zk e).trans hc;refine⟨{x with os:=λi=>{x.os i with hs:=jE w' (A i)},hs:=λi=>{x.hs i with ob:={(x.hs i).ob with hs:=jE w' (B i)}}},⟨rfl,rfl⟩,⟨rfl,rfl,rfl⟩,⟨λi hi'=>?_,λi hi'=>?_,λi hi'=>?_⟩,⟨hf.o,hf.h,hf.t,λi hi'=>?_,λi hi'=>?_,hf.ts⟩⟩
 .obtain⟨b,off,ch,e1,e2,e3,e4,e5⟩:=hA i hi';have nc:¬b=C:=λe=>by subst e;exact h.n _ _ e4.c5
  exact⟨b,off,A i,ch,e1,e2,e3,⟨far _ _ _ e3 e4.c0 nc,far _ _ _ e3 e4.c1 nc,far _ _ _ e3 e4.c2 nc,far _ _ _ e3 e4.c3 nc,far _ _ _ e3 e4.c4 nc,far _ _ _ e3 e4.c5 nc,far _ _ _ e3 e4.c6 nc⟩,(h.strs hh e5 (hf.os i hi').s).1⟩
 .obtain⟨b,off,ch,e1,e2,e3,e4,e5⟩:=hB i hi';have nc:¬b=C:=λe=>by subst e;exact h.n _ _ e4.c1
  exact⟨b,off,B i,ch,e1,e2,e3,⟨far _ _ _ e3 e4.c0 nc,far _ _ _ e3 e4.c1 nc,far _ _ _ e3 e4.c2 nc,far _ _ _ e3 e4.c3 nc,far _ _ _ e3 e4.c4 nc,far _ _ _ e3 e4.c5 nc,far _ _ _ e3 e4.c6 nc,far _ _ _ e3 e4.c7 nc,far _ _ _ e3 e4.c8 nc⟩,(h.strs hh e5 (hf.hs i hi').s).1⟩
 .obtain⟨b,off,e1,e2,e3,e4⟩:=hx.t i hi';have nc:¬b=C:=λe=>by subst e;exact h.i (off+i*5+4) _ Za e4.c4
  exact⟨b,off,e1,e2,e3,⟨far _ _ _ e3 e4.c0 nc,far _ _ _ e3 e4.c1 nc,far _ _ _ e3 e4.c2 nc,far _ _ _ e3 e4.c3 nc,far _ _ _ e3 e4.c4 nc⟩⟩
 .obtain⟨b,off,ch,e1,e2,e3,e4,e5⟩:=hA i hi';have f:=hf.os i hi';exact⟨f.k,f.n,f.t,f.h,(h.strs hh e5 f.s).2,f.v⟩
 .obtain⟨b,off,ch,e1,e2,e3,e4,e5⟩:=hB i hi';have f:=hf.hs i hi';exact⟨f.k,f.n,f.t,f.h,(h.strs hh e5 f.s).2,f.v⟩
def lR:List ByteArray:=[⟨#[]⟩,⟨#[98,101,114,116,104]⟩,⟨#[106,111,98]⟩,⟨#[97,46,98]⟩,⟨#[110,111,110,101]⟩]
def kL:List ByteArray:=[⟨#[]⟩,⟨#[]⟩,⟨#[120]⟩,⟨#[122,45]⟩,⟨#[113]⟩]
theorem qJ{s:ByteArray}(h:s∈lR):s.size<=8:=by simp only[lR,Eb,Nj,or_false]at h;rcases h with rfl|rfl|rfl|rfl|rfl<;>decide
theorem pL{s:ByteArray}(h:s∈kL):s.size<=8:=by simp only[kL,Eb,Nj,or_false]at h;rcases h with rfl|rfl|rfl|rfl|rfl<;>decide
structure jF (A:Nat)(X:World):Prop where r:∃l,AN X A 5 (AR l)n:MG X A
theorem jF.fr{A R:Nat}{X Y:World}(h:jF A X)(hf:Az (λq=>q=R) X Y)(hA:¬A=R):jF A Y:=by obtain⟨⟨l,hl⟩,hn⟩:=h;exact⟨⟨l,hl.fr hf hA⟩,hn.fr hf hl.lt hA⟩
theorem jF.below{A:Nat}{X Y:World}(h:jF A X)(hb:Below X.1.size X Y):jF A Y:=by obtain⟨⟨l,hl⟩,hn⟩:=h;exact⟨⟨l,hl.below hb hl.lt⟩,hn.below hb hl.lt⟩
theorem PD (t:Nat->Value)(i:Nat):Av t i (t i)=t:=by funext j;unfold Av;cases e:(j==i)with
 |true=>
  have e2:j=i:=by simpa using e
  rw[e2];rfl
 |false=>rfl
theorem SL.frU{w w':World}{base:Nat}{v:Value}{xs:List ByteArray}{P:Nat->Prop}(h:SL w base v xs)(hf:Az P w w')(hP:∀q,P q->q<base):SL w' base v xs:=by
 obtain⟨g,cp,g1,y1,y2,y3,y4,y5⟩:=h;have n:¬P g:=λe=>by have:=hP g e;omega
 exact⟨g,cp,g1,y1,Ac y2 hf.size,y3,λj hj=>⟨by rw[hf.cell (p:=⟨g,j,none⟩) y2 n];exact(y4 j hj).1,by rw[hf.frozen (p:=⟨g,j,none⟩) y2 n];exact(y4 j hj).2⟩,λk hk=>(hf.cell (p:=⟨g,k,none⟩) y2 n).trans (y5 k hk)⟩
theorem Rd.keep2{W X Y:World}{R A:Nat}{ad:OA}{n cap p0 p:Nat}(_hW:Rd W R ad n cap p0)(hX:Rd X R ad n cap p)(hf:Az (λq=>q=A) X Y)(hA:¬R=A)(had2:∀b off,ad=some ⟨b,off,none⟩->¬b=A):Rd Y R ad n cap p:=by refine⟨(hf.cell (p:=⟨R,0,none⟩) hX.lt hA).trans hX.c0,(hf.cell (p:=⟨R,1,none⟩) hX.lt hA).trans hX.c1,(hf.frozen (p:=⟨R,1,none⟩) hX.lt hA).trans hX.f1,Ac hX.lt hf.size,hX.n2,λi hi=>?_,λj s e=>hX.ns j s (by rw[<-hf.cell (p:=⟨R,j,none⟩) hX.lt hA];exact e)⟩;obtain⟨b,off,v,e1,e2,e3,e4,e5⟩:=hX.bt i hi;exact⟨b,off,v,e1,Ac e2 hf.size,e3,(hf.cell (p:=⟨b,off+i,none⟩) e2 (had2 b off e1)).trans e4,e5⟩
def lZ (W:World)(R A:Nat)(i:Nat)(v:Value)(X:World):Prop:=match i with
 |0=>v=.pointer (some ⟨R,0,none⟩)
 |1=>∃(y:Bk)(b1 b2 b3:OA)(e1 e2 e3:Nat),v=.agg #[.int .i64 y.now,.int .i64 y.floor,.slice b1 y.on e1,.slice b2 y.hn e2,.slice b3 y.tn e3]/\BF X 0 X.1.size y b1 b2 b3/\BL y
 |2=>SL X W.1.size v lR
 |3=>v=.pointer (some ⟨R,0,none⟩)
 |4=>∃k:Nat,k<5/\v=.int .i64 k
 |5=>∃(g k:Nat)(s:ByteArray),v=.pointer (some ⟨g,k,none⟩)/\W.1.size<=g/\g<X.1.size/\s.size<=8/\X.cell? ⟨g,k,none⟩=some (.string s)
 |6=>∃s:ByteArray,s.size<=8/\v=.string s
 |7=>SL X W.1.size v kL
 |8=>v=.pointer (some ⟨R,0,none⟩)
 |9=>∃k:Nat,k<5/\v=.int .i64 k
 |10=>∃(g k:Nat)(s:ByteArray),v=.pointer (some ⟨g,k,none⟩)/\W.1.size<=g/\g<X.1.size/\s.size<=8/\X.cell? ⟨g,k,none⟩=some (.string s)
 |11=>∃s:ByteArray,s.size<=8/\v=.string s
 |12=>∃(y:Bk)(b1 b2 b3:OA)(e1 e2 e3:Nat),AN X A 5 (AR [.int .i64 y.now,.int .i64 y.floor,.slice b1 y.on e1,.slice b2 y.hn e2,.slice b3 y.tn e3])/\BF X 0 X.1.size y b1 b2 b3/\BL y
 |13=>∃s:ByteArray,s.size<=8/\v=.string s
 |14=>∃s:ByteArray,s.size<=8/\v=.string s
 |_=>True
def OZ (R A i q:Nat):Prop:=match i with
 |1=>q=R
 |4=>q=R
 |9=>q=R
 |12=>q=A
 |_=>False
def mS (i:Nat):Nat:=match i with
 |1=>205000
 |4=>1
 |9=>1
 |_=>0
theorem Wv{P:Prop}(h:P:=by have h:=hK (.pointer (some ⟨R,0,none⟩)) X p' uK uK rfl (Az.refl _ _) hrd hJ;refine Ag rfl rfl ?_;clear hK hg;go_simp;simpa[Av]using h):P:=h
theorem bO{P:Prop}(h:P:=by obtain⟨g,k,s,e,y1,y2,y3,y4⟩:=h;exact⟨g,k,s,e,y1,Ac y2 hU2.size,y3,(hU2.cell (p:=⟨g,k,none⟩) y2 (λq=>by rcases q with q|q<;>(have q':g=_:=q;omega))).trans y4⟩):P:=h
theorem fN{P:Prop}(h:P:=by have h:=hK (.string s) X p' uK uK ⟨s,y3,rfl⟩ (Az.refl _ _) hrd hJ;refine Ag rfl rfl ?_;clear hK hg;go_simp;simpa[Av,g4]using h):P:=h
theorem iW{P:Prop}(h:P:=by have h:=hK (.string s) X p' uK uK ⟨s,hs,rfl⟩ (Az.refl _ _) hrd hJ;refine Ag rfl rfl ?_;clear hK hg;go_simp;simpa[Av,g6]using h):P:=h
theorem qR{p0 p1 p6 p7:Value}{mk:(Nat->Value)->Array Value}(t0:Nat->Value)(R A:Nat)(ad:OA)(nn cap p:Nat)(W:World)(hr:Rd W R ad nn cap p)(hp:p<=50)(hJ:jF A W)(hAR:¬A=R)(had:∀b off,ad=some ⟨b,off,none⟩->b<W.1.size)(hadA:∀b off,ad=some ⟨b,off,none⟩->¬b=A)(hmk:mk=λt=>#[p0,p1,.pointer (some ⟨A,0,none⟩),t 13,t 14,.pointer (some ⟨R,0,none⟩),p6,p7,t 0,t 1,t 2,t 3,t 4,t 5,t 6,t 7,t 8,t 9,t 10,t 11])(Q:Exit->Act->World->Prop)(hQ:∀(t:Nat->Value)(X:World)(y:Bk)(b1 b2 b3:OA)(e1 e2 e3:Nat)(s1 s2:ByteArray),Az (λq=>q=R\/q=A) W X->AN X A 5 (AR [.int .i64 y.now,.int .i64 y.floor,.slice b1 y.on e1,.slice b2 y.hn e2,.slice b3 y.tn e3])->BF X 0 X.1.size y b1 b2 b3->BL y->s1.size<=8->s2.size<=8->t 13=.string s1->t 14=.string s2->Q .normal ⟨mk t,[]⟩ X):Code.wp prog (rg Try.f11 2) Q ⟨mk t0,[]⟩ W:=by
 have hRW:=hr.lt;obtain⟨l0,hl0⟩:=hJ.r;have hAW:=hl0.lt;clear hl0 l0;refine Vh Ze 15 205002 mS mk t0 R ad nn cap p (λq=>q=R\/q=A) (OZ R A) (jF A) (lZ W R A) Ze Ze Zb ?_ ?_ rfl hr (hJ.below (Ao _ _).drew) ?_ ?_;all_goals subst hmk
 .intro i q h;unfold OZ at h;split at h<;>first|exact AA h|exact AC h|exact h.elim
 .intro i j v X Y p' hi hj hij h hJX hD hRd hX;have hU2:Az (λq=>q=R\/q=A) X Y:=hD.mono (λq h=>by unfold OZ at h;split at h<;>first|exact AA h|exact AC h|exact h.elim);have hNS:∀q,q=R\/q=A->MG X q:=λq hq=>by
   rcases hq with rfl|rfl;.exact hRd.ns
   .exact hJX.n
  have hnA:i=12->¬OZ R A j A:=λhi12 e=>by
   unfold OZ at e;split at e;.exact hAR e
   .exact hAR e
   .exact hAR e
   .exact hij hi12
   .exact e.elim
  rcases(show i=0\/i=1\/i=2\/i=3\/i=4\/i=5\/i=6\/i=7\/i=8\/i=9\/i=10\/i=11\/i=12\/i=13\/i=14 by omega)with rfl|rfl|rfl|rfl|rfl|rfl|rfl|rfl|rfl|rfl|rfl|rfl|rfl|rfl|rfl;.exact h
  .obtain⟨y,b1,b2,b3,e1,e2,e3,e,hin,hfit⟩:=h;exact⟨y,b1,b2,b3,e1,e2,e3,e,(hin.boxP hU2 hNS uK).upTo hU2.size,hfit⟩
  .exact h.frU hU2 (λq hq=>by rcases hq with rfl|rfl<;>omega)
  .exact h
  .exact h
  .exact bO
  .exact h
  .exact h.frU hU2 (λq hq=>by rcases hq with rfl|rfl<;>omega)
  .exact h
  .exact h
  .exact bO
  .exact h
  .obtain⟨y,b1,b2,b3,e1,e2,e3,hrow,hin,hfit⟩:=h;exact⟨y,b1,b2,b3,e1,e2,e3,hrow.fr hD (λe=>hnA rfl e),(hin.boxP hU2 hNS uK).upTo hU2.size,hfit⟩
  .exact h
  .exact h
 .intro i hi t X K p' hb hp1 hp2 hrd hJ hg hK;rcases(show i=0\/i=1\/i=2\/i=3\/i=4\/i=5\/i=6\/i=7\/i=8\/i=9\/i=10\/i=11\/i=12\/i=13\/i=14 by omega)with rfl|rfl|rfl|rfl|rfl|rfl|rfl|rfl|rfl|rfl|rfl|rfl|rfl|rfl|rfl;.exact Wv
  .have g0:t 0=.pointer (some ⟨R,0,none⟩):=hg 0 (AQ rfl);have hp3:p'+205000<=p+205002:=hp2;refine Ag rfl rfl ?_;have HK:=Ah hK;have HR:=Ah hrd;have HJ:=Ah hJ;have Sy:=Ah (λb off (e:ad=some ⟨b,off,none⟩)=>Ac (had b off e) hb.size);clear hK hg hrd hJ;go_simp;go_at_call 24;refine(YA R ad nn cap p' X HR Za Sy).mono ?_;rintro r Z ⟨y,b1,b2,b3,e1,e2,e3,rfl,hin,hfit,hf,p2,q1,q2,hr2⟩;have h:=HK (.agg #[.int .i64 y.now,.int .i64 y.floor,.slice b1 y.on e1,.slice b2 y.hn e2,.slice b3 y.tn e3]) Z p2 q1 q2 ⟨y,b1,b2,b3,e1,e2,e3,rfl,hin,hfit⟩ hf hr2 (HJ.fr hf Za);simpa[Av,g0]using h
  .have h:=hK (.slice (some ⟨X.1.size,0,none⟩) 5 5) (X.alloc (.cells (Ln lR).toArray 9)) p' uK uK ((SL.new X lR).mono2 hb.size) (Aq AG) (hrd.below AG) (hJ.below AG);refine Ag rfl rfl ?_;clear hK hg;go_simp;simpa[Av,Ln,lR]using h
  .exact Wv
  .have g3:t 3=.pointer (some ⟨R,0,none⟩):=hg 3 (AQ rfl);have hp3:p'+1<=p+205002:=hp2;refine Ag rfl rfl ?_;have HK:=Ah hK;have HR:=Ah hrd;have HJ:=Ah hJ;clear hK hg hrd hJ;go_simp;go_at_call 12;refine(A7 R ad nn cap p' 5 X HR Za Zb Zb).mono ?_;rintro r Z ⟨k,rfl,_,hv,hf,hr2⟩;have h:=HK (.int .i64 k) Z (p'+1) Za uK ⟨k,by have:=hv Zb;omega,rfl⟩ hf hr2 (HJ.fr hf Za);simpa[Av,g3]using h
  .obtain⟨g,cp,g1,y1,y2,y3,y4,y5⟩:SL X W.1.size (t 2) lR:=hg 2 (AQ rfl);obtain⟨k,hk,g3⟩:∃k:Nat,k<5/\t 4=.int .i64 k:=hg 4 (AQ rfl);have hL:lR.length=5:=rfl;rw[hL]at g1;have hkL:k<lR.length:=hk;have h:=hK (.pointer (some ⟨g,k,none⟩)) X p' uK uK ⟨g,k,lR[k],rfl,y1,y2,qJ (Gg _),y5 k hkL⟩ (Az.refl _ _) hrd hJ;refine Ag rfl rfl ?_;clear hK hg;go_simp;rw[if_pos Za,AI];go_simp;simpa[Av,g1,g3]using h
  .obtain⟨g,k,s,g4,y1,y2,y3,y4⟩:∃(g k:Nat)(s:ByteArray),t 5=.pointer (some ⟨g,k,none⟩)/\W.1.size<=g/\g<X.1.size/\s.size<=8/\X.cell? ⟨g,k,none⟩=some (.string s):=hg 5 (AQ rfl);exact fN
  .have h:=hK (.slice (some ⟨X.1.size,0,none⟩) 5 5) (X.alloc (.cells (Ln kL).toArray 9)) p' uK uK ((SL.new X kL).mono2 hb.size) (Aq AG) (hrd.below AG) (hJ.below AG);refine Ag rfl rfl ?_;clear hK hg;go_simp;simpa[Av,Ln,kL]using h
  .exact Wv
  .have g8:t 8=.pointer (some ⟨R,0,none⟩):=hg 8 (AQ rfl);have hp3:p'+1<=p+205002:=hp2;refine Ag rfl rfl ?_;have HK:=Ah hK;have HR:=Ah hrd;have HJ:=Ah hJ;clear hK hg hrd hJ;go_simp;go_at_call 12;refine(A7 R ad nn cap p' 5 X HR Za Zb Zb).mono ?_;rintro r Z ⟨k,rfl,_,hv,hf,hr2⟩;have h:=HK (.int .i64 k) Z (p'+1) Za uK ⟨k,by have:=hv Zb;omega,rfl⟩ hf hr2 (HJ.fr hf Za);simpa[Av,g8]using h
  .obtain⟨g,cp,g1,y1,y2,y3,y4,y5⟩:SL X W.1.size (t 7) kL:=hg 7 (AQ rfl);obtain⟨k,hk,g3⟩:∃k:Nat,k<5/\t 9=.int .i64 k:=hg 9 (AQ rfl);have hL:kL.length=5:=rfl;rw[hL]at g1;have hkL:k<kL.length:=hk;have h:=hK (.pointer (some ⟨g,k,none⟩)) X p' uK uK ⟨g,k,kL[k],rfl,y1,y2,pL (Gg _),y5 k hkL⟩ (Az.refl _ _) hrd hJ;refine Ag rfl rfl ?_;clear hK hg;go_simp;rw[if_pos Za,AI];go_simp;simpa[Av,g1,g3]using h
  .obtain⟨g,k,s,g4,y1,y2,y3,y4⟩:∃(g k:Nat)(s:ByteArray),t 10=.pointer (some ⟨g,k,none⟩)/\W.1.size<=g/\g<X.1.size/\s.size<=8/\X.cell? ⟨g,k,none⟩=some (.string s):=hg 10 (AQ rfl);exact fN
  .obtain⟨y,b1,b2,b3,e1,e2,e3,g1,hin,hfit⟩:∃(y:Bk)(b1 b2 b3:OA)(e1 e2 e3:Nat),t 1=.agg #[.int .i64 y.now,.int .i64 y.floor,.slice b1 y.on e1,.slice b2 y.hn e2,.slice b3 y.tn e3]/\BF X 0 X.1.size y b1 b2 b3/\BL y:=hg 1 (AQ rfl);obtain⟨⟨l,hl⟩,hns⟩:=hJ;have c0:=hl.cell 0 Zb;have c1:=hl.cell 1 Zb;have c2:=hl.cell 2 Zb;have c3:=hl.cell 3 Zb;have c4:=hl.cell 4 Zb;have cf:=hl.free;have cl:=hl.lt;obtain⟨Y,hY,hYt,hYi,hYf⟩:=sY e1 e2 e3 hl hns hin;have hnY:MG Y A:=λj s e=>by
    by_cases hj:j<5;.have e2:=hYt.cell j hj;rw[e]at e2;rcases(show j=0\/j=1\/j=2\/j=3\/j=4 by omega)with rfl|rfl|rfl|rfl|rfl<;>simp[AR]at e2
    .rw[hY]at e;have ne:∀k,k<5->¬(⟨A,j,none⟩:Addr)=⟨A,k,none⟩:=λk hk e=>by injection e with _ e2;omega
     rw[As _ _ _ _ (λe=>ne 4 Zb e.symm),As _ _ _ _ (λe=>ne 3 Zb e.symm),As _ _ _ _ (λe=>ne 2 Zb e.symm),As _ _ _ _ (λe=>ne 1 Zb e.symm),As _ _ _ _ (λe=>ne 0 Zb e.symm)]at e;exact hns j s e
   have h:=hK (t 12) Y p' uK uK ⟨y,b1,b2,b3,e1,e2,e3,hYt,hYi,hfit⟩ hYf (hr.keep2 hrd hYf (λe=>hAR e.symm) (had2:=λb off e=>hadA b off e)) ⟨⟨_,hYt⟩,hnY⟩;rw[hY]at h;refine Ag rfl rfl ?_;clear hK hg hl hns hin hY hYt hYi hYf hnY hrd;go_simp;simpa[Av,g1,PD]using h
  .obtain⟨s,hs,g6⟩:∃s:ByteArray,s.size<=8/\t 6=.string s:=hg 6 (AQ rfl);exact iW
  .obtain⟨s,hs,g6⟩:∃s:ByteArray,s.size<=8/\t 11=.string s:=hg 11 (AQ rfl);exact iW
 .intro t X p' hb hp1 hp2 hrd hJ hg;obtain⟨y,b1,b2,b3,e1,e2,e3,hrow,hin,hfit⟩:=hg 12 Zb;obtain⟨s1,z1,g13⟩:=hg 13 Zb;obtain⟨s2,z2,g14⟩:=hg 14 Zb;exact hQ t X y b1 b2 b3 e1 e2 e3 s1 s2 hb hrow hin hfit z1 z2 g13 g14
end Go.Proofs.Ytnnjcenacidceaa
