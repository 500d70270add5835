import Derived.Test.YtdknjmgdgnmhjaaGreatPk11
set_option maxRecDepth 100000
set_option maxHeartbeats 8000000
namespace Go.Proofs.YtdknjmgdgnmhjaaGreat
open Go.RowKit Go.Maps Go.Proofs.Tryz
variable {W w X:World}{ad A:OA}{n k lo hi C p:Nat}{s:Nat→ByteArray}{B:Bk}{v:Wr}{o:Ob}{e:Bool}{a:ByteArray}
def Q6 (s:Nat->ByteArray)(j:Nat):Value:=.s (s j)
theorem x9{cap:Nat}(hs:Cr W lo hi ad (n*1) (Q6 s))(B7:k<=n)(Eg:n<=cap):Cr W lo hi (if cap=k then ad else Option.map (λx=>x.add k) ad) ((n-k)*1) (λj=>Q6 s (k*1+j)):=by refine⟨λj hj=>?_,λ_ _=>rfl⟩;have h1:¬cap=k:=Za;obtain⟨b,off,e1,e2,e3,e4⟩:=hs.d (k*1+j) Za;rw[if_neg h1];subst e1;exact⟨b,off+k,by simp[Addr.add],e2,e3,by rw[BN];rw[Oq]at e4⊢;exact e4⟩
theorem AK.srcS (h:AK W lo hi ad n s):Cr W lo hi ad (n*1) (Q6 s):=⟨λj hj=>h j Za,λ_ _=>rfl⟩
def Agc (O P:Nat)(ad:OA)(n cap k:Nat)(a:ByteArray)(s:Nat->ByteArray)(lo hi:Nat)(W:World)(i:Nat)(v:Value):Prop:=match i with
 |0=>∃b,v=.l (some ⟨b,0,none⟩) 0 0
 |1=>v=.p O 6
 |2=>v=.l ad n cap
 |3=>v=.i (k:Nat)
 |4=>v=.l ad k cap
 |6=>v=.p P 5
 |7=>v=.s a
 |10=>v=.p O 6
 |11=>v=.l ad n cap
 |12=>v=.i (k:Nat)
 |13=>∃CY cap2,v=.l CY (n-k) cap2/\Cr W lo hi CY ((n-k)*1) (λj=>Q6 s (k*1+j))
 |15=>v=.p O 6
 |_=>True
theorem bi{p0 p1 p2 p4 p5 p7 p8 p9 Ee Em D1 DW DN DU DX DO DP DV DT D9 Ef EJ Ej El Ei Ed Eh Ek Ey Ev Ew Ex EM EH EI EV Er EB ER ES EQ EC ED Eo EW EU EK EL F9 FY F8 Ga FM Fz Fy FN Fv Gy Gx GO GI GQ Gw Gv Fu G9 Ha Hf Hd Hb Hc GL GK Hg In Ik Im Hj He G8 Hi Hh Ie J8 Jr Jp Lj Lh Lf J9 Kc KL KJ KM KN KI LJ FE Gb Fi EX E0 EZ EY Fg Fh Ho Hn Hm Hq GN GP GF GG Hr Hp I8 I9 Jb J4 JX JW J7 JU P5 PW PR P9 PY P8 P2 Oz OH OG Ov OF Oy Wo Wg Wn V7 Wh WD V3 Wp Wf Wy V2 WB V9 V1 WA Wb WC V6 Wm VZ WH Wa V5 V8 WI WK VY WE Wz Wc Wi:Value}{mk:(Nat->Value)->Array Value}(t0:Nat->Value)(O P:Nat)(ad:OA)(n cap k:Nat)(a:ByteArray)(s:Nat->ByteArray)(lo hi:Nat)(W:World)(B7:k<=n)(hn:n<=1000)(Eg:n<=cap)(CD:hi<=W.1.size)(hs:Cr W lo hi ad (n*1) (Q6 s))(hO:O<W.1.size)(hP:P<W.1.size)(h6:W.cell? ⟨O,6,none⟩=some (.slice ad n cap))(h5:W.cell? ⟨P,5,none⟩=some (.s a))(hf:W.frozen? ⟨O,6,none⟩=false)(Dg:mk=λt=>#[p0,p1,p2,.p P 0,p4,p5,.p O 0,p7,p8,p9,.i (k:Nat),Ee,Em,D1,DW,DN,DU,DX,DO,DP,DV,DT,D9,Ef,EJ,Ej,El,Ei,Ed,Eh,Ek,Ey,Ev,Ew,Ex,EM,EH,EI,EV,Er,EB,ER,ES,EQ,EC,ED,Eo,EW,EU,EK,EL,F9,FY,F8,Ga,FM,Fz,Fy,FN,Fv,Gy,Gx,GO,GI,GQ,Gw,Gv,Fu,G9,Ha,Hf,Hd,Hb,Hc,GL,GK,Hg,In,Ik,Im,Hj,He,G8,Hi,Hh,Ie,J8,Jr,Jp,Lj,Lh,Lf,J9,Kc,KL,KJ,KM,KN,KI,LJ,FE,Gb,Fi,EX,E0,EZ,EY,Fg,Fh,Ho,Hn,Hm,Hq,GN,GP,GF,GG,Hr,Hp,t 0,t 1,t 2,t 3,t 4,t 5,t 6,t 7,t 8,t 9,t 10,t 11,t 12,t 13,t 14,t 15,I8,I9,Jb,J4,JX,JW,J7,JU,P5,PW,PR,P9,PY,P8,P2,Oz,OH,OG,Ov,OF,Oy,Wo,Wg,Wn,V7,Wh,WD,V3,Wp,Wf,Wy,V2,WB,V9,V1,WA,Wb,WC,V6,Wm,VZ,WH,Wa,V5,V8,WI,WK,VY,WE,Wz,Wc,Wi])(Q:Exit->Act->World->Prop)(hQ:∀(t:Nat->Value)(v3:Value) X,QZ W (k+1+(n-k)) 1 (Cp (Cp (Q6 s) (k*1) (λ_=>.s a)) ((k+1)*1) (λj=>Q6 s (k*1+j))) v3 X/\Below W.1.size W X->Q .normal ⟨mk t,[]⟩ (X.setCell ⟨O,6,none⟩ v3)):Code.wp prog (rg Tryz.f59 30) Q ⟨mk t0,[]⟩ W:=by
 refine dC Zc 16 5 8 9 14 Zb (AR rfl) (AR rfl) (AR rfl) mk t0 (Agc O P ad n cap k a s lo hi W)
  (QZ W k 1 (Q6 s)) (q_ W 1 (λ_=>.s a)) (QZ W (k+1) 1 (Cp (Q6 s) (k*1) (λ_=>.s a))) (QZ W (k+1+(n-k)) 1 (Cp (Cp (Q6 s) (k*1) (λ_=>.s a)) ((k+1)*1) (λj=>Q6 s (k*1+j)))) (λac Y=>∃(t:Nat->Value)(v3:Value)(X:World),ac=⟨mk t,[]⟩/\Y=X.setCell ⟨O,6,none⟩ v3/\QZ W (k+1+(n-k)) 1 (Cp (Cp (Q6 s) (k*1) (λ_=>.s a)) ((k+1)*1) (λj=>Q6 s (k*1+j))) v3 X/\Below W.1.size W X) Zc Zc Zc (λ_ _ _ h hb=>h.grow hb) (λ_ _ _ h hb=>h.grow hb) (λ_ _ _ h hb=>h.grow hb) (λ_ _ _ h hb=>h.grow hb) (λ_ _ _ _ h hk=>h.lt hk) (λ_ _ _ h=>h.lt) rfl ?_ ?_ ?_ ?_ ?_ ?_ ?_;all_goals subst Dg
 .intro i hi1 g5 g8 g9 fZ t X K hb hg hK;rcases(show i=0\/i=1\/i=2\/i=3\/i=4\/i=6\/i=7\/i=10\/i=11\/i=12\/i=13\/i=15 by omega)with rfl|rfl|rfl|rfl|rfl|rfl|rfl|rfl|rfl|rfl|rfl|rfl;.have h:=hK (.l (some ⟨X.1.size,0,none⟩) 0 0) (X.alloc (.cells #[] 9)) ⟨_,rfl⟩ Do;exact JC
  .exact sg
  .have AY:t 1=_:=hg 1 (AR rfl);exact yj
  .exact sg
  .exact yb
  .exact sg
  .have AY:t 6=_:=hg 6 (AR rfl);have l0:=(hb.cell (p:=⟨P,5,none⟩) hP).trans h5;have zl:=Aa hP hb.size;exact L7
  .exact sg
  .have AY:t 10=_:=hg 10 (AR rfl);exact yj
  .exact sg
  .have AY:t 11=_:=hg 11 (AR rfl);have Ff:t 12=_:=hg 12 (AR rfl);have h:=hK (.l (if cap=k then ad else Option.map (λx=>x.add k) ad) (n-k) (cap-k)) X ⟨_,_,rfl,x9 hs B7 Eg⟩ Dx;refine Au rfl rfl ?_;clear hK hg;simp only[AY,Ff];go_simp;exact LN
  .exact sg
 .intro t X K hb hg hK;obtain⟨b0,e0⟩:=hg 0 (AR rfl);have AY:t 4=_:=hg 4 (AR rfl);obtain⟨v,Y,CZ,FW,Jh,Nn⟩:=RS (P:=prog) W X hb 50 50 9 1 16 (.s ByteArray.empty) underlying50 Gh Za rfl lo hi b0 ad k cap (Q6 s) ((hs.belowR hb CD).take Za) Za Za;exact Db rfl rfl (.tmp 119) (.tmp 123) 50 50 rfl (by exact e0) (by exact AY) CZ (hK v Y trivial FW Jh Nn)
 .intro t X K hb hg hK;have AY:t 7=_:=hg 7 (AR rfl);have h:=hK (.l (some ⟨X.1.size,0,none⟩) 1 1) (X.alloc (.cells #[.s a] 9)) trivial ⟨X.1.size,rfl,hb.size,Ze,⟨λj hj=>by obtain rfl:j=0:=Za;exact⟨X.1.size,0,rfl,AG _,BE _,Ze⟩,λ_ _=>rfl⟩⟩ (λh m e=>by cases e;exact AG _) Do;exact dt
 .intro t X K hb hg ra rb _ hK;obtain⟨b8,e8,_,_,s8⟩:=rb;obtain⟨v,Y,CZ,FW,Nn⟩:=NV (P:=prog) W X hb 50 50 9 1 16 (.s ByteArray.empty) underlying50 Gh Za rfl k (Q6 s) (λ_ _=>rfl) (t 5) ra b8 (b8+1) (some ⟨b8,0,none⟩) 1 1 (λ_=>.s a) s8 (Az Za) Za Za;exact Db rfl rfl (.tmp 124) (.tmp 127) 50 50 rfl rfl (by exact e8) CZ (hK v Y trivial FW Nn)
 .intro t X K hb hg rc hK;obtain⟨CY,cap2,lp,s13⟩:=hg 13 (AR rfl);obtain⟨v,Y,CZ,FW,Nn⟩:=NV (P:=prog) W X hb 50 50 9 1 16 (.s ByteArray.empty) underlying50 Gh Za rfl (k+1) (Cp (Q6 s) (k*1) (λ_=>.s a)) (λj _=>by unfold Cp;split<;>rfl) (t 9) rc lo hi CY (n-k) cap2 (λj=>Q6 s (k*1+j)) (s13.belowR hb CD) (AA Za) Za Za;exact Db rfl rfl (.tmp 128) (.tmp 132) 50 50 rfl rfl (by exact lp) CZ (hK v Y trivial FW Nn)
 .intro t X K hb hg rd hK;have AY:t 15=_:=hg 15 Za;have h:=hK ⟨#[p0,p1,p2,.p P 0,p4,p5,.p O 0,p7,p8,p9,.i (k:Nat),Ee,Em,D1,DW,DN,DU,DX,DO,DP,DV,DT,D9,Ef,EJ,Ej,El,Ei,Ed,Eh,Ek,Ey,Ev,Ew,Ex,EM,EH,EI,EV,Er,EB,ER,ES,EQ,EC,ED,Eo,EW,EU,EK,EL,F9,FY,F8,Ga,FM,Fz,Fy,FN,Fv,Gy,Gx,GO,GI,GQ,Gw,Gv,Fu,G9,Ha,Hf,Hd,Hb,Hc,GL,GK,Hg,In,Ik,Im,Hj,He,G8,Hi,Hh,Ie,J8,Jr,Jp,Lj,Lh,Lf,J9,Kc,KL,KJ,KM,KN,KI,LJ,FE,Gb,Fi,EX,E0,EZ,EY,Fg,Fh,Ho,Hn,Hm,Hq,GN,GP,GF,GG,Hr,Hp,t 0,t 1,t 2,t 3,t 4,t 5,t 6,t 7,t 8,t 9,t 10,t 11,t 12,t 13,t 14,t 15,I8,I9,Jb,J4,JX,JW,J7,JU,P5,PW,PR,P9,PY,P8,P2,Oz,OH,OG,Ov,OF,Oy,Wo,Wg,Wn,V7,Wh,WD,V3,Wp,Wf,Wy,V2,WB,V9,V1,WA,Wb,WC,V6,Wm,VZ,WH,Wa,V5,V8,WI,WK,VY,WE,Wz,Wc,Wi],[]⟩ (X.setCell ⟨O,6,none⟩ (t 14)) ⟨t,t 14,X,rfl,rfl,rd,hb⟩;have l0:=(hb.cell (p:=⟨O,6,none⟩) hO).trans h6;have lf:=(hb.frozen (p:=⟨O,6,none⟩) hO).trans hf;have zl:=Aa hO hb.size;obtain⟨Ld,g3,KH,kD,_,_⟩:=rd;refine Au rfl rfl ?_;clear hK hg;rw[kD]at h;simp only[kD,AY]at h⊢;go_simp;simpa[kD,AY]using h
 .exact wT
structure S5 (w:World)(n1:Nat)(B:Bk)(v:Wr)(o:Ob)(e:Bool)(A:OA)(C:Nat)(X:World):Prop where
 z:w.1.size+1+1<n1
 sz:n1+1<X.1.size
 b0:X.cell? ⟨w.1.size,0,none⟩=some (.i B.v)p5:X.cell? ⟨w.1.size+1,5,none⟩=some (.s v.hold)r:AE X (w.1.size+1+1) 9 (AV [.i 0,.bool false,.s ⟨#[]⟩,.s ⟨#[]⟩,.i 0,.i 0,.s ⟨#[]⟩,.bool false,.l none 0 0])ob:AE X n1 7 (AV [.s o.k,.s o.n,.i o.t,.i o.b,.s o.m,.bool e,.l A o.hn C])ch:AE X (n1+1) 9 (AV [.i (B.v+1),.bool false,.s ⟨#[]⟩,.s ⟨#[]⟩,.i 0,.i 0,.s ⟨#[]⟩,.bool false,.l none 0 0])bel:Below w.1.size w X
 st:AK X 0 X.1.size A o.hn o.hs
theorem S5.grow{Y:World}{n1:Nat}(h:S5 w n1 B v o e A C X)(hb:Below X.1.size X Y):S5 w n1 B v o e A C Y:=have z:=h.z
 have sz:=h.sz
 ⟨h.z,Aa h.sz hb.size,(hb.cell (p:=⟨w.1.size,0,none⟩) Zf).trans h.b0,(hb.cell (p:=⟨w.1.size+1,5,none⟩) Zn).trans h.p5,h.r.below hb Za,h.ob.below hb Za,h.ch.below hb Za,h.bel.trans (hb.mono h.bel.size),λi hi=>by obtain⟨b,off,e1,e2,e3,e4⟩:=h.st i hi;exact⟨b,off,e1,e2,Aa e3 hb.size,(hb.cell (p:=⟨b,off+i,none⟩) e3).trans e4⟩⟩
theorem xJ{w1 w2:World}(hw:w2=(w1.alloc (.cells #[.s o.k,.s o.n,.i o.t,.i o.b,.s o.m,.bool e,.l A o.hn C] 52)).alloc (.cells #[.i (B.v+1),.bool false,.s ⟨#[]⟩,.s ⟨#[]⟩,.i 0,.i 0,.s ⟨#[]⟩,.bool false,.l none 0 0] 54))(z1:w.1.size+1+1<w1.1.size)(hb:Below w.1.size w w1)(b0:w1.cell? ⟨w.1.size,0,none⟩=some (.i B.v))(p5:w1.cell? ⟨w.1.size+1,5,none⟩=some (.s v.hold))(hf:∀i,w1.frozen? ⟨w.1.size+1+1,i,none⟩=false)(r0:w1.cell? ⟨w.1.size+1+1,0,none⟩=some (.i 0))(r1:w1.cell? ⟨w.1.size+1+1,1,none⟩=some (.bool false))(r2:w1.cell? ⟨w.1.size+1+1,2,none⟩=some (.s ⟨#[]⟩))(r3:w1.cell? ⟨w.1.size+1+1,3,none⟩=some (.s ⟨#[]⟩))(r4:w1.cell? ⟨w.1.size+1+1,4,none⟩=some (.i 0))(r5:w1.cell? ⟨w.1.size+1+1,5,none⟩=some (.i 0))(r6:w1.cell? ⟨w.1.size+1+1,6,none⟩=some (.s ⟨#[]⟩))(r7:w1.cell? ⟨w.1.size+1+1,7,none⟩=some (.bool false))(r8:w1.cell? ⟨w.1.size+1+1,8,none⟩=some (.slice none 0 0))(st:AK w2 0 w2.1.size A o.hn o.hs):S5 w w1.1.size B v o e A C w2:=by
 have B2:Below w1.1.size w1 w2:=by rw[hw];exact(Ak _ _).alloc Ze _
 have hr:AE w1 (w.1.size+1+1) 9 (AV [.i 0,.bool false,.s ⟨#[]⟩,.s ⟨#[]⟩,.i 0,.i 0,.s ⟨#[]⟩,.bool false,.l none 0 0]):=⟨z1,hf,λj hj=>by rcases(D_ j Za)with rfl|rfl|rfl|rfl|rfl|rfl|rfl|rfl|rfl<;>assumption⟩;refine⟨z1,by rw[hw];simp,(B2.cell (p:=⟨w.1.size,0,none⟩) Zf).trans b0,(B2.cell (p:=⟨w.1.size+1,5,none⟩) Zn).trans p5,hr.below B2 z1,?_,?_,hb.trans (B2.mono hb.size),st⟩;.rw[hw];exact AE.new (w:=w1) (l:=[.s o.k,.s o.n,.i o.t,.i o.b,.s o.m,.bool e,.l A o.hn C]) (t:=52) Do
 .rw[hw];have h:=AE.new (w:=w1.alloc (.cells #[.s o.k,.s o.n,.i o.t,.i o.b,.s o.m,.bool e,.l A o.hn C] 52)) (l:=[.i (B.v+1),.bool false,.s ⟨#[]⟩,.s ⟨#[]⟩,.i 0,.i 0,.s ⟨#[]⟩,.bool false,.l none 0 0]) (t:=54) Dx;rw[Av]at h;exact h
theorem de{j:Nat}(hk:k<=n)(hj:j<n+1):Cp (Cp (Q6 s) (k*1) (λ_=>.s a)) ((k+1)*1) (λj=>Q6 s (k*1+j)) j=.s (Qb s k a j):=by
 rw[lv (Q6 s) (λ_=>.s a) k n 1 j hk Za];unfold Ab5 Qb Q6;by_cases h1:j<k;.rw[if_pos Za,if_pos h1]
 .by_cases h2:j=k;.rw[if_neg Za,if_pos Za,if_neg h1,if_pos h2]
  .rw[if_neg Za,if_neg Za,if_neg h1,if_neg h2]
theorem Ab2{v:Value}(hk:k<=n)(h:QZ W (k+1+(n-k)) 1 (Cp (Cp (Q6 s) (k*1) (λ_=>.s a)) ((k+1)*1) (λj=>Q6 s (k*1+j))) v X):∃ad cap,v=.l ad (n+1) cap/\BA X W.1.size X.1.size ad (n+1) (Qb s k a):=by obtain⟨ad,g,cp,e,r,l⟩:=h;have e1:k+1+(n-k)=n+1:=Za;rw[e1]at e r;have Mx:0<cp:=Aa Za r.le;exact⟨ad,cp,e,λi hi=>⟨g,0,r.addr Mx,l Mx,(r.room Mx).lt,by rw[A6,r.cell i Za,de hk hi],(r.room Mx).free _⟩⟩
theorem Afc (B:Bk)(v:Wr)(a1 a2 a3:OA)(c1 c2 c3:Nat)(o:Ob)(w:World)(Cj:LW B v)(hc:Bh w 0 w.1.size a1 B.on B.os)(ho:Ck B.os v.k v.n B.on=o)(SN:(o.hn:Int)<=5)(ht:CC B.os v.k v.n B.on=true)(IL:v.op=4)(LT:v.s=0\/(¬v.s=0/\v.s=o.t))(he:o.e=false)(hh:K1 o.hn o.hs v.hold=false)(h5:(o.hn:Int)<5)(J2:DE B v=0)(hv:∀(A:OA)(C:Nat),(.agg #[.i (B.v+1),.bool false,.s o.k,.s o.n,.i (B.v+1),.i o.b,.s o.m,.bool false,.l A (o.hn+1) C]:Value)=.agg (vH (Ls B v) A C))(tp:∀(W:World)(A:OA),AK W 0 W.1.size A (Ls B v).ob.hn (Ls B v).ob.hs=AK W 0 W.1.size A (o.hn+1) (Qb o.hs (Gu o.hs v.hold o.hn) v.hold)):Calls prog 59 #[.agg (vB B a1 a2 a3 c1 c2 c3),.agg (vW v)] w λe w'=>Qc B v w e w':=by
 have B3:∀o1 o2 o3,Below w.1.size w (((w.alloc o1).alloc o2).alloc o3):=λo1 o2 o3=>(((Ap _ _).alloc A9 _).alloc Ze _).alloc Zd _;have Gj:=Ab B3;have Kf:=Ab Cj;have HC:=Ab hc;have HO:=Ab ho;have LU:=Cj.now0;have Mz:=Cj.now1;have GJ:(B.on:Int)<=100:=by have:=Cj.on;omega
 have Y6:=Ab GJ;clear Cj hc ho B3;have HT:=Ab ht;have QN:=Ab IL;clear ht IL;have HE:=Ab he;clear he;have YI:=Ab LT;clear LT;have HH:=Ab hh;clear hh;have YC:=Ab J2;have HV:=Ab hv;have HN:=Ab tp;clear J2 hv tp;go_enter func59,ntmps59;go_wp2_with fail;refine(Ce B.v B.f B.on B.os a1 a2 a3 c1 B.hn c2 B.tn c3 v.k v.n _ 0 w.1.size Zd gX Kf.fit.os (HC.below (Gj _ _ _) A9)).mono ?_;rintro e w1 ⟨A,C,rfl,Eg,Df,AU⟩;rw[HO.out]at Eg Df;rw[HO.out,HT.out];have z1:w.1.size+1+1<w1.1.size:=by have:=AU.size;simp at this;omega
 have zA:w.1.size<w1.1.size:=Za;have zB:w.1.size+1<w1.1.size:=Za;have VK:w.1.size<w1.1.size+1:=Za;have VL:w.1.size<w1.1.size+1+1:=Za;have VG:w.1.size+1<w1.1.size+1:=Za;have VQ:w.1.size+1<w1.1.size+1+1:=Za;have VI:w.1.size+1+1<w1.1.size+1:=Za;have VO:w.1.size+1+1<w1.1.size+1+1:=Za;obtain⟨X0,X1,X2,Y1,Y2⟩:=BI AU;obtain⟨b0,b1,b2,b3,b4⟩:=Oo X0;obtain⟨p0,p1,p2,p3,p4,p5⟩:=SB X1;obtain⟨r0,r1,r2,r3,r4,r5,r6,r7,r8⟩:=WN X2;have HB:=Ab ((Gj _ _ _).trans (AU.mono Zd));have Ig:=Ab Df;clear X0 X1 X2 AU Df;have hw:IntKind.i64.wrap (B.v+1)=B.v+1:=AQ _ ⟨Za,Za⟩;simp only[Av]at Ig;rw[QN.out]at p0;unfold vO;rw[HE.out];rcases YI.out with hs|⟨Ow,hs⟩;.rw[hs]at p3;clear hs;exact Agd
 .rw[hs]at p3;have iz:(o.t !=0)=true:=by rw[<-hs];simpa using Ow
  clear hs Ow;exact Agd
def Ij (p k:Nat):Nat:=if k<=p then k else k-1
theorem iQ (s:Nat->ByteArray)(h:¬k=p):Ij p (k+1)=Ij p k+1/\Lp s p (Ij p k)=s k:=by
 unfold Ij Lp;by_cases h1:k<p;.rw[if_pos Za,if_pos Za,if_pos h1];exact⟨rfl,rfl⟩
 .rw[if_neg Za,if_neg Za,if_neg Za];exact⟨Za,congrArg s Za⟩
theorem gW (p:Nat):Ij p (p+1)=Ij p p:=by unfold Ij;rw[if_neg Za,if_pos A9];omega
theorem Xn (h:p<n):Ij p n=n-1:=by unfold Ij;rw[if_neg Za]
theorem ow (p k:Nat):Ij p k<=k:=by unfold Ij;split<;>omega
theorem SR (n:Nat)(s:Nat->ByteArray):CK (n+1) s=CK n s++[.s (s n)]:=by simp[CK,List.range_succ]
theorem eH (h:Kl n s)(hh:K1 n s a=true):Gu s a n<n/\∀k,k<n->(s k=a↔k=Gu s a n):=by
 have h1:=Aa9 (a:=a) h;rw[hh]at h1;have h2:Gu s a n<n/\s (Gu s a n)=a:=by simpa using h1.symm
 refine⟨h2.1,λk hk=>⟨λe=>?_,λe=>by rw[e];exact h2.2⟩⟩;rcases KE k (Gu s a n)with h3|h3|h3;.have:=h k (Gu s a n) h3 h2.1;rw[e,h2.2]at this;exact absurd this (by rw[IG rfl];decide)
 .exact h3
 .have:=h (Gu s a n) k h3 hk;rw[e,h2.2]at this;exact absurd this (by rw[IG rfl];decide)
theorem TE{base:Nat}{v:Value}(h:w.ownsRow base 9 1 v n (CK n s)):∃ad cap,v=.l ad n cap/\BA w base w.1.size ad n s:=by
 rcases Bi n with h0|h0;.subst h0;obtain⟨ad,cap,e⟩:=Mt h;exact⟨ad,cap,e,λi hi=>absurd hi (Ae _)⟩
 .obtain⟨g,cap,e,_,ho⟩:=L3 h h0;exact⟨_,cap,e,ho⟩
theorem Abo (B:Bk)(v:Wr)(a1 a2 a3:OA)(c1 c2 c3:Nat)(o:Ob)(w:World)(Cj:LW B v)(hc:Bh w 0 w.1.size a1 B.on B.os)(ho:Ck B.os v.k v.n B.on=o)(SN:(o.hn:Int)<=5)(ht:CC B.os v.k v.n B.on=true)(IL:v.op=5)(LT:v.s=0\/(¬v.s=0/\v.s=o.t))(he:o.e=false)(hh:K1 o.hn o.hs v.hold=true)(Qa:Kl o.hn o.hs)(m:Nat)(hm0:o.hn-1=m)(J2:DE B v=0)(hv:∀(A:OA)(C:Nat),(.agg #[.i (B.v+1),.bool false,.s o.k,.s o.n,.i (B.v+1),.i o.b,.s o.m,.bool false,.l A m C]:Value)=.agg (vH (Ls B v) A C))(tp:∀(W:World)(A:OA),AK W 0 W.1.size A (Ls B v).ob.hn (Ls B v).ob.hs=AK W 0 W.1.size A m (Lp o.hs (Gu o.hs v.hold o.hn))):Calls prog 59 #[.agg (vB B a1 a2 a3 c1 c2 c3),.agg (vW v)] w λe w'=>Qc B v w e w':=by
 have B3:∀o1 o2 o3,Below w.1.size w (((w.alloc o1).alloc o2).alloc o3):=λo1 o2 o3=>(((Ap _ _).alloc A9 _).alloc Ze _).alloc Zd _;have Gj:=Ab B3;have Kf:=Ab Cj;have HC:=Ab hc;have HO:=Ab ho;have LU:=Cj.now0;have Mz:=Cj.now1;have GJ:(B.on:Int)<=100:=by have:=Cj.on;omega
 have Y6:=Ab GJ;clear Cj hc ho B3;have HT:=Ab ht;have QN:=Ab IL;clear ht IL;have HE:=Ab he;clear he;have YI:=Ab LT;clear LT;obtain⟨i0,Fq,GH,C7,Fk⟩:=info_parts Gh;have lH:=Ab (eH Qa hh);have HM:=Ab hm0;clear Qa hm0;have HH:=Ab hh;clear hh;have YC:=Ab J2;have HV:=Ab hv;have HN:=Ab tp;clear J2 hv tp;go_enter func59,ntmps59;go_wp2_with fail;refine(Ce B.v B.f B.on B.os a1 a2 a3 c1 B.hn c2 B.tn c3 v.k v.n _ 0 w.1.size Zd gX Kf.fit.os (HC.below (Gj _ _ _) A9)).mono ?_;rintro e w1 ⟨A,C,rfl,Eg,Df,AU⟩;rw[HO.out]at Eg Df;rw[HO.out,HT.out];have z1:w.1.size+1+1<w1.1.size:=by have:=AU.size;simp at this;omega
 have zA:w.1.size<w1.1.size:=Za;have zB:w.1.size+1<w1.1.size:=Za;have VK:w.1.size<w1.1.size+1:=Za;have VL:w.1.size<w1.1.size+1+1:=Za;have VG:w.1.size+1<w1.1.size+1:=Za;have VQ:w.1.size+1<w1.1.size+1+1:=Za;have VI:w.1.size+1+1<w1.1.size+1:=Za;have VO:w.1.size+1+1<w1.1.size+1+1:=Za;obtain⟨X0,X1,X2,Y1,Y2⟩:=BI AU;obtain⟨b0,b1,b2,b3,b4⟩:=Oo X0;obtain⟨p0,p1,p2,p3,p4,p5⟩:=SB X1;obtain⟨r0,r1,r2,r3,r4,r5,r6,r7,r8⟩:=WN X2;have HB:=Ab ((Gj _ _ _).trans (AU.mono Zd));have Ig:=Ab Df;clear X0 X1 X2 AU Df;have hw:IntKind.i64.wrap (B.v+1)=B.v+1:=AQ _ ⟨Za,Za⟩;simp only[Av]at Ig;rw[QN.out]at p0;unfold vO;rw[HE.out];rcases YI.out with hs|⟨Ow,hs⟩;.rw[hs]at p3;clear hs;exact yl
 .rw[hs]at p3;have iz:(o.t !=0)=true:=by rw[<-hs];simpa using Ow
  clear hs Ow;exact yl
theorem Acx (B:Bk)(v:Wr)(a1 a2 a3:OA)(c1 c2 c3:Nat)(o:Ob)(w:World)(Cj:LW B v)(hc:Bh w 0 w.1.size a1 B.on B.os)(ho:Ck B.os v.k v.n B.on=o)(SN:(o.hn:Int)<=5)(ht:CC B.os v.k v.n B.on=true)(IL:v.op=5)(LT:v.s=0\/(¬v.s=0/\v.s=o.t))(he:o.e=true)(hh:K1 o.hn o.hs v.hold=true)(Qa:Kl o.hn o.hs)(m:Nat)(hm0:o.hn-1=m)(J2:DE B v=0)(hv:∀(A:OA)(C:Nat),(.agg #[.i (B.v+1),.bool ((m:Int)==0),.s o.k,.s o.n,.i (B.v+1),.i o.b,.s o.m,.bool true,.l A m C]:Value)=.agg (vH (Ls B v) A C))(tp:∀(W:World)(A:OA),AK W 0 W.1.size A (Ls B v).ob.hn (Ls B v).ob.hs=AK W 0 W.1.size A m (Lp o.hs (Gu o.hs v.hold o.hn))):Calls prog 59 #[.agg (vB B a1 a2 a3 c1 c2 c3),.agg (vW v)] w λe w'=>Qc B v w e w':=by
 have B3:∀o1 o2 o3,Below w.1.size w (((w.alloc o1).alloc o2).alloc o3):=λo1 o2 o3=>(((Ap _ _).alloc A9 _).alloc Ze _).alloc Zd _;have Gj:=Ab B3;have Kf:=Ab Cj;have HC:=Ab hc;have HO:=Ab ho;have LU:=Cj.now0;have Mz:=Cj.now1;have GJ:(B.on:Int)<=100:=by have:=Cj.on;omega
 have Y6:=Ab GJ;clear Cj hc ho B3;have HT:=Ab ht;have QN:=Ab IL;clear ht IL;have HE:=Ab he;clear he;have YI:=Ab LT;clear LT;obtain⟨i0,Fq,GH,C7,Fk⟩:=info_parts Gh;have lH:=Ab (eH Qa hh);have HM:=Ab hm0;clear Qa hm0;have HH:=Ab hh;clear hh;have YC:=Ab J2;have HV:=Ab hv;have HN:=Ab tp;clear J2 hv tp;go_enter func59,ntmps59;go_wp2_with fail;refine(Ce B.v B.f B.on B.os a1 a2 a3 c1 B.hn c2 B.tn c3 v.k v.n _ 0 w.1.size Zd gX Kf.fit.os (HC.below (Gj _ _ _) A9)).mono ?_;rintro e w1 ⟨A,C,rfl,Eg,Df,AU⟩;rw[HO.out]at Eg Df;rw[HO.out,HT.out];have z1:w.1.size+1+1<w1.1.size:=by have:=AU.size;simp at this;omega
 have zA:w.1.size<w1.1.size:=Za;have zB:w.1.size+1<w1.1.size:=Za;have VK:w.1.size<w1.1.size+1:=Za;have VL:w.1.size<w1.1.size+1+1:=Za;have VG:w.1.size+1<w1.1.size+1:=Za;have VQ:w.1.size+1<w1.1.size+1+1:=Za;have VI:w.1.size+1+1<w1.1.size+1:=Za;have VO:w.1.size+1+1<w1.1.size+1+1:=Za;obtain⟨X0,X1,X2,Y1,Y2⟩:=BI AU;obtain⟨b0,b1,b2,b3,b4⟩:=Oo X0;obtain⟨p0,p1,p2,p3,p4,p5⟩:=SB X1;obtain⟨r0,r1,r2,r3,r4,r5,r6,r7,r8⟩:=WN X2;have HB:=Ab ((Gj _ _ _).trans (AU.mono Zd));have Ig:=Ab Df;clear X0 X1 X2 AU Df;have hw:IntKind.i64.wrap (B.v+1)=B.v+1:=AQ _ ⟨Za,Za⟩;simp only[Av]at Ig;rw[QN.out]at p0;unfold vO;rw[HE.out];rcases YI.out with hs|⟨Ow,hs⟩;.rw[hs]at p3;clear hs;exact ya
 .rw[hs]at p3;have iz:(o.t !=0)=true:=by rw[<-hs];simpa using Ow
  clear hs Ow;exact ya
end Go.Proofs.YtdknjmgdgnmhjaaGreat
