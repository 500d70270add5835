import Derived.Test.YtdknjmgdgnmhjaaGreatPk46
set_option maxRecDepth 100000
set_option maxHeartbeats 40000000
namespace Go.Proofs.YtdknjmgdgnmhjaaGreat
open Go.RowKit Go.Proofs.Tryz
variable {w X Y:World}{R nn cap p' d1 d2 d3 T p2 p0 o f p k q m Kb i ck j:Nat}{ad ak:OA}{x x':Bk}{P:Pl}{k0:Ob}
structure OU (w:World) (R:Nat) (ad:OA) (nn cap p:Nat) (x:Bk) (P:Pl) (d1 d2 d3 T:Nat) (X:World):Prop where
 f:AB (λq=>q=R) w X
 r:Rd X R ad nn cap p
 a:AE X (w.1.size+1) 5 (AV [.i 0,.i 0,.l none 0 0,.l none 0 0,.l none 0 0])an:IC X (w.1.size+1)t:AE X T 5 (AV [.i x.v,.i x.f,.l P.a1 x.on d1,.l P.a2 x.hn d2,.l P.a3 x.tn d3])d:Jv X x P
 lo:∀q,GA P x q->w.1.size+2<=q
 tb:∀q,GA P x q->¬q=T
 T0:w.1.size+2<=T
 sz:Sz x
theorem N4.b (h:N4 w R ad nn cap p' x P d1 d2 d3 T X):OU w R ad nn cap p' x P d1 d2 d3 T X:=⟨h.f,h.r,h.a,h.an,h.t,h.c.d,h.c.lo,λq hq e=>by have:=h.tb q hq;omega,h.T0,⟨by have:=h.sz.1;omega,by have:=h.sz.2;omega⟩⟩
theorem OU.pick (h:OU w R ad nn cap p' x P d1 d2 d3 T X) (hR:R<w.1.size) (hf:AB (λq=>q=R) X Y) (hr:Rd Y R ad nn cap p2):OU w R ad nn cap p2 x P d1 d2 d3 T Y:=⟨h.f.trans hf,hr,h.a.fr2 hf Za,h.an.fr hf h.a.lt Za,h.t.fr2 hf (by have:=h.T0;omega),h.d.fr hf (λq hq e=>by have:=h.lo q hq;omega),h.lo,h.tb,h.T0,h.sz⟩
theorem OU.below (h:OU w R ad nn cap p' x P d1 d2 d3 T X) (hb:Below X.1.size X Y):OU w R ad nn cap p' x P d1 d2 d3 T Y:=⟨h.f.trans (Aj hb),h.r.below hb,h.a.below hb h.a.lt,h.an.below hb h.a.lt,h.t.below hb h.t.lt,h.d.fr (P:=λ_=>False) (Aj hb) (λ_ _ e=>e),h.lo,h.tb,h.T0,h.sz⟩
theorem OU.setT (h:OU w R ad nn cap p' x P d1 d2 d3 T X) (hw:Rd w R ad nn cap p0){u:Value}(ho:o<5) (y:Bk) (Q:Pl) (e1 e2 e3:Nat) (hv:∀j,j<5->GR (AV [.i x.v,.i x.f,.l P.a1 x.on d1,.l P.a2 x.hn d2,.l P.a3 x.tn d3]) o u j=AV [.i y.v,.i y.f,.l Q.a1 y.on e1,.l Q.a2 y.hn e2,.l Q.a3 y.tn e3] j) (DR:Jv X y Q) (ME:∀q,GA Q y q->GA P x q) (zz:y.on<=x.on/\y.hn<=x.hn:=by constructor<;>dsimp only<;>omega):OU w R ad nn cap p' y Q e1 e2 e3 T (X.setCell ⟨T,o,none⟩ u):=by have hR:=hw.lt;have T0:=h.T0;have F:=(AB.refl (λq=>q=T) X).setCell (p:=⟨T,o,none⟩) rfl u;have f2:=h.f.far (z:=T) Za o u;exact⟨f2,hw.keep h.r f2 (F.mono (λq hq e=>by omega)),h.a.fr F Za,h.an.fr F h.a.lt Za,(h.t.set ho u).congr hv,DR.fr F (λq hq=>h.tb q (ME q hq)),λq hq=>h.lo q (ME q hq),λq hq=>h.tb q (ME q hq),h.T0,⟨by have:=h.sz.1;omega,by have:=h.sz.2;omega⟩⟩
theorem Rh{y:Ob}(en:y.hn=(x.os o).hn) (q:Nat):GA P {x with os:=Cl x.os o y} q↔GA P x q:=by
 have eF:(λi=>(Cl x.os o y i).hn)=(λi=>(x.os i).hn):=funext (λi=>by
  by_cases e:i=o;.subst e;rw[Bf];exact en
  .rw[BC _ _ e]);have b1:O1 P {x with os:=Cl x.os o y} q↔O1 P x q:=by show Fm P.g1 x.on (λi=>(Cl x.os o y i).hn) P.h1 q↔_;rw[eF];exact Iff.rfl
 exact or_congr b1 Iff.rfl
theorem OU.setO (h:OU w R ad nn cap p' x P d1 d2 d3 T X) (hw:Rd w R ad nn cap p0) (ho:o<x.on) (hf:f<7) (u:Value) (y:Ob) (en:y.hn=(x.os o).hn) (es:y.hs=(x.os o).hs) (hv:∀k,k<7->AV (oc y (P.A1 o) (P.C1 o)) k=if k=f then u else AV (oc (x.os o) (P.A1 o) (P.C1 o)) k):OU w R ad nn cap p' {x with os:=Cl x.os o y} P d1 d2 d3 T (X.setCell ⟨P.g1,o*7+f,none⟩ u):=by have hR:=hw.lt;have bl:GA P x P.g1:=AA (AA ⟨Za,rfl⟩);have g0:=h.lo _ bl;have gT:=h.tb _ bl;have F:=(AB.refl (λq=>q=P.g1) X).setCell (p:=⟨P.g1,o*7+f,none⟩) rfl u;have f2:=h.f.far (z:=P.g1) Za (o*7+f) u;exact⟨f2,hw.keep h.r f2 (F.mono (λq hq e=>by omega)),h.a.fr F Za,h.an.fr F h.a.lt Za,h.t.fr F (λe=>gT e.symm),h.d.setO ho hf u y en es hv,λq hq=>h.lo q ((Rh en q).1 hq),λq hq=>h.tb q ((Rh en q).1 hq),h.T0,h.sz⟩
theorem Rn{y:Ch}(en:y.ob.hn=(x.hs o).ob.hn) (q:Nat):GA P {x with hs:=Cl x.hs o y} q↔GA P x q:=by
 have eF:(λi=>(Cl x.hs o y i).ob.hn)=(λi=>(x.hs i).ob.hn):=funext (λi=>by
  by_cases e:i=o;.subst e;rw[Bf];exact en
  .rw[BC _ _ e]);have b1:UI P {x with hs:=Cl x.hs o y} q↔UI P x q:=by show Fm P.g2 x.hn (λi=>(Cl x.hs o y i).ob.hn) P.h2 q↔_;rw[eF];exact Iff.rfl
 exact or_congr Iff.rfl (or_congr b1 Iff.rfl)
theorem OU.setC (h:OU w R ad nn cap p' x P d1 d2 d3 T X) (hw:Rd w R ad nn cap p0) (ho:o<x.hn) (hf:f<9) (u:Value) (y:Ch) (en:y.ob.hn=(x.hs o).ob.hn) (es:y.ob.hs=(x.hs o).ob.hs) (hv:∀k,k<9->AV (cc y (P.A2 o) (P.C2 o)) k=if k=f then u else AV (cc (x.hs o) (P.A2 o) (P.C2 o)) k):OU w R ad nn cap p' {x with hs:=Cl x.hs o y} P d1 d2 d3 T (X.setCell ⟨P.g2,o*9+f,none⟩ u):=by have hR:=hw.lt;have bl:GA P x P.g2:=Az (AA (AA ⟨Za,rfl⟩));have g0:=h.lo _ bl;have gT:=h.tb _ bl;have F:=(AB.refl (λq=>q=P.g2) X).setCell (p:=⟨P.g2,o*9+f,none⟩) rfl u;have f2:=h.f.far (z:=P.g2) Za (o*9+f) u;exact⟨f2,hw.keep h.r f2 (F.mono (λq hq e=>by omega)),h.a.fr F Za,h.an.fr F h.a.lt Za,h.t.fr F (λe=>gT e.symm),h.d.setC ho hf u y en es hv,λq hq=>h.lo q ((Rn en q).1 hq),λq hq=>h.tb q ((Rn en q).1 hq),h.T0,h.sz⟩
theorem OU.fin (h:OU w R ad nn cap p' x P d1 d2 d3 T X) (BG:BS x) (hp:p<=p'/\p'<=p+k):xS w R ad nn cap p k T X:=⟨x,P.a1,P.a2,P.a3,d1,d2,d3,p',hp,h.f,h.r,h.a,h.an,h.t,h.d.isIn (λ_ _=>Ar _),BG,h.sz⟩
theorem N4.drop (h:N4 w R ad nn cap p' x P d1 d2 d3 T X) (hw:Rd w R ad nn cap p0){b:OA}{n2 c2:Nat}(e2:n2=x.hn-1) (hb:0<x.hn-1->b=some ⟨P.g2,9,none⟩) (BG:BS x) (hp:p<=p'/\p'<=p+k):xS w R ad nn cap p k T (X.setCell ⟨T,3,none⟩ (.l b n2 c2)):=by
 subst e2;have T0:=h.T0;have F:=(AB.refl (λq=>q=T) X).setCell (p:=⟨T,3,none⟩) rfl (.l b (x.hn-1) c2);have Cs:BL X 0 X.1.size {x with hn:=x.hn-1,hs:=λi=>x.hs (i+1)} P.a1 b P.a3:=by have I:=h.c.d.isIn (lo:=0) (λ_ _=>Ar _);refine⟨I.o,λi hi=>?_,I.t⟩;have hi':i<x.hn-1:=hi;obtain⟨c,off,ah,ch,e1,e2,e3,e4,e5⟩:=I.h (i+1) Za;rw[h.c.d.h.addr Za]at e1;cases e1;refine⟨P.g2,9,ah,ch,hb Za,e2,e3,?_,e5⟩;rw[show 0+(i+1)*9=9+i*9 by omega]at e4;exact e4
 refine h.fin hw (Pq:=λ_=>False) (AB.refl _ _) h.r (λq e=>e.elim) T0 {x with hn:=x.hn-1,hs:=λi=>x.hs (i+1)} P.a1 b P.a3 d1 c2 d3 ?_ ((Cs.box F h.tn A9).upTo F.size) ?_ hp;.exact(h.t.set (o:=3) Zb (.l b (x.hn-1) c2)).congr (λj hj=>by rcases(VU j Za)with rfl|rfl|rfl|rfl|rfl<;>rfl)
 .refine⟨BG.o,?_,BG.t,BG.os,λi hi=>?_,BG.ts⟩;.have:=BG.h;show((x.hn-1:Nat):Int)<=_;omega
  .have hi':i<x.hn-1:=hi;exact BG.hs (i+1) Za
theorem OU.bare (h:OU w R ad nn cap p' x P d1 d2 d3 T X){z:Nat}(hw:Rd w R ad nn cap p0):OU w R ad nn cap p' {x with hn:=0,f:=x.v} {P with a2:=some ⟨z,0,none⟩} d1 0 d3 T ((X.setCell ⟨T,3,none⟩ (.l (some ⟨z,0,none⟩) 0 0)).setCell ⟨T,1,none⟩ (.i x.v)):=by
 have ME:∀q,GA {P with a2:=some ⟨z,0,none⟩} {x with hn:=0} q->GA P x q:=λq hq=>by
  rcases hq with e|e|e;.exact AA e
  .exact k_
  .exact Az (Az e)
 have n2:∀q,¬UI {P with a2:=some ⟨z,0,none⟩} {x with hn:=0} q:=λq e=>by exact k_
 have DR:Jv X {x with hn:=0} {P with a2:=some ⟨z,0,none⟩}:=by refine⟨h.d.o,?_,h.d.t,λq _ e=>n2 q e,h.d.d13,λq e=>absurd e (n2 q)⟩;exact⟨λe=>absurd e (Bc 0),λe=>absurd e (Bc 0),λi e=>absurd e (Ae i),λi e=>absurd e (Ae i),⟨λi e=>absurd e (Ae i),λi j e=>absurd e (Ae i)⟩⟩
 have h1:=h.setT hw (o:=3) (u:=.l (some ⟨z,0,none⟩) 0 0) Zb {x with hn:=0} {P with a2:=some ⟨z,0,none⟩} d1 0 d3 (λj hj=>by rcases(VU j Za)with rfl|rfl|rfl|rfl|rfl<;>rfl) DR ME;exact h1.setT hw (o:=1) (u:=.i x.v) Zb {x with hn:=0,f:=x.v} {P with a2:=some ⟨z,0,none⟩} d1 0 d3 (λj hj=>by rcases(VU j Za)with rfl|rfl|rfl|rfl|rfl<;>rfl) ⟨h1.d.o,h1.d.h,h1.d.t,h1.d.d12,h1.d.d13,h1.d.d23⟩ (λq hq=>hq)
theorem Xo (h:BS x):BS {x with hn:=0,f:=x.v}:=⟨h.o,by show((0:Nat):Int)<=_;decide,h.t,h.os,λi hi=>absurd hi (Ae i),h.ts⟩
theorem OU.ver2 (h:OU w R ad nn cap p' x P d1 d2 d3 T X) (hw:Rd w R ad nn cap p0) (h1:1<x.on) (BG:BS x) (v:Int) (hv:(Lit.int .i64 v).wf=true):∃y,OU w R ad nn cap p' y P d1 d2 d3 T ((X.setCell ⟨P.g1,2,none⟩ (.i v)).setCell ⟨P.g1,9,none⟩ (.i v))/\BS y:=by
 have a:=h.setO hw (o:=0) (f:=2) Za Zb (.i v) {x.os 0 with t:=v} rfl rfl Pr;have fa:=UQ (o:=0) (y:={x.os 0 with t:=v}) BG ⟨(BG.os 0 Za).k,(BG.os 0 Za).n,(BG.os 0 Za).t,(BG.os 0 Za).h,(BG.os 0 Za).s,hv⟩;generalize ey:{x with os:=Cl x.os 0 {x.os 0 with t:=v}}=y at a fa;have yo:1<y.on:=by rw[<-ey];exact h1
 have b:=a.setO hw (o:=1) (f:=2) yo Zb (.i v) {y.os 1 with t:=v} rfl rfl Pr;exact⟨_,b,UQ fa ⟨(fa.os 1 yo).k,(fa.os 1 yo).n,(fa.os 1 yo).t,(fa.os 1 yo).h,(fa.os 1 yo).s,hv⟩⟩
structure Bnd (x:Bk):Prop where
 n:-1000000<=x.v/\x.v<=1000000
 f:-1000000<=x.f/\x.f<=1000000
 o:∀j,j<x.on->(-1000000<=(x.os j).t/\(x.os j).t<=1000000)/\(-1000000<=(x.os j).b/\(x.os j).b<=1000000)/\(x.os j).m.size<=300
 h:∀j,j<x.hn->-1000000<=(x.hs j).t/\(x.hs j).t<=1000000
theorem VB.bnd (v:VB x):Bnd x:=by
 have v0:=v.n0;have v1:=v.n1;have v2:=v.n2;have v3:=v.hnow;refine⟨⟨Za,Za⟩,⟨Za,Za⟩,λj hj=>?_,λj hj=>?_⟩
 .have ix:=(v.fit j hj).1;have hpb:=Js ix;have htx:(x.os j).m.size<=300:=by simp only[Bv,As,decide_eq_true_eq]at ix;exact ix.2.2.2.2.1
  exact⟨⟨Za,Za⟩,⟨Za,Za⟩,htx⟩
 .have hpc:=v.chg j hj;have Nw:=v.t j hj;exact⟨Za,Za⟩
structure Rz (w:World) (R:Nat) (ad:OA) (nn cap q m:Nat) (x:Bk) (P:Pl) (d1 d2 d3 T Kb i:Nat) (x':Bk) (p':Nat) (k0:Ob) (ak:OA) (ck:Nat) (X:World):Prop where
 b:OU w R ad nn cap p' x' P d1 d2 d3 T X
 fit:BS x'
 n:x'.v=x.v
 fl:x'.f=x.f
 on:x'.on=x.on
 hn:x'.hn=x.hn
 os:∀j,i<=j->x'.os j=x.os j
 t:∀j,(x'.hs j).t=(x.hs j).t
 row:AE X Kb 7 (AV (oc k0 ak ck))K0:w.1.size+2<=Kb
 nk:∀q,GA P x' q->¬q=Kb
 q0:q<=p'
 q1:p'<=q+m
def SpK (w:World) (R:Nat) (ad:OA) (nn cap q m:Nat) (x:Bk) (P:Pl) (d1 d2 d3 T Kb i:Nat) (X:World):Prop:=∃(x':Bk) (p':Nat) (k0:Ob) (ak:OA) (ck:Nat),Rz w R ad nn cap q m x P d1 d2 d3 T Kb i x' p' k0 ak ck X
theorem OU.start (h:OU w R ad nn cap p' x P d1 d2 d3 T X) (BG:BS x) (k0:Ob) (ak:OA) (ck:Nat):Rz w R ad nn cap p' 0 x P d1 d2 d3 T X.1.size 0 x p' k0 ak ck (X.alloc (.cells (oc k0 ak ck).toArray 52)):=by have hb:=Ak X (.cells (oc k0 ak ck).toArray 52);have T0:=h.T0;have tl:=h.t.lt;refine⟨h.below hb,BG,rfl,rfl,rfl,rfl,λ_ _=>rfl,λ_=>rfl,AE.new (l:=oc k0 ak ck) Dx,Za,λq hq e=>?_,AG _,AG _⟩;have:=h.d.blt hq;omega
theorem Rz.pick (h:Rz w R ad nn cap q m x P d1 d2 d3 T Kb i x' p' k0 ak ck X){e:Nat}(hR:R<w.1.size) (hf:AB (λq=>q=R) X Y) (h1:p'<=p2) (h2:p2<=p'+e) (hr:Rd Y R ad nn cap p2):Rz w R ad nn cap q (m+e) x P d1 d2 d3 T Kb i x' p2 k0 ak ck Y:=by have K0:=h.K0;have q0:=h.q0;have q1:=h.q1;exact⟨h.b.pick hR hf hr,h.fit,h.n,h.fl,h.on,h.hn,h.os,h.t,h.row.fr2 hf Za,K0,h.nk,Za,Za⟩
theorem Rz.more (h:Rz w R ad nn cap q m x P d1 d2 d3 T Kb i x' p' k0 ak ck X){m2 i2:Nat}(hm:m<=m2) (hi:i<=i2):Rz w R ad nn cap q m2 x P d1 d2 d3 T Kb i2 x' p' k0 ak ck X:=by have q1:=h.q1;exact⟨h.b,h.fit,h.n,h.fl,h.on,h.hn,λj hj=>h.os j Za,h.t,h.row,h.K0,h.nk,h.q0,Za⟩
theorem Rz.spH (h:Rz w R ad nn cap q m x P d1 d2 d3 T Kb i x' p' k0 ak ck X) (hR:R<w.1.size) (bd:Bnd x) (hio:i<=o) (ho:o<x.on) (hj:j<x.hn):SC X R T x' P.g1 P.g2 P.a3 d1 d2 d3 o j (x'.os o) (x'.hs j) (P.A1 o) (P.A2 j) (P.C1 o) (P.C2 j):=by
 have T0:=h.b.T0;refine h.b.d.spH (by rw[h.on];exact ho) (by rw[h.hn];exact hj) h.b.t Za (λq hq e=>by have:=h.b.lo q hq;omega) (by rw[h.n];exact bd.n) (by rw[h.fl];exact bd.f) ?_ ?_ ?_ ?_;.rw[h.os o hio];exact(bd.o o ho).1
 .rw[h.os o hio];exact(bd.o o ho).2.1
 .rw[h.t j];exact bd.h j hj
 .rw[h.os o hio];exact(bd.o o ho).2.2
theorem Rz.t2 (h:Rz w R ad nn cap q m x P d1 d2 d3 T Kb i x' p' k0 ak ck X) (h0:0<x.on):X.cell? ⟨T,2,none⟩=some (.slice (some ⟨P.g1,0,none⟩) x.on d1):=by have a:=h.b.d.o.addr (by rw[h.on];exact h0);have c:X.cell? ⟨T,2,none⟩=some (.slice P.a1 x'.on d1):=h.b.t.cell 2 Zb;rw[c,a,h.on]
theorem Rz.t3 (h:Rz w R ad nn cap q m x P d1 d2 d3 T Kb i x' p' k0 ak ck X) (h0:0<x.hn):X.cell? ⟨T,3,none⟩=some (.slice (some ⟨P.g2,0,none⟩) x.hn d2):=by have a:=h.b.d.h.addr (by rw[h.hn];exact h0);have c:X.cell? ⟨T,3,none⟩=some (.slice P.a2 x'.hn d2):=h.b.t.cell 3 Zb;rw[c,a,h.hn]
theorem Rz.setC (h:Rz w R ad nn cap q m x P d1 d2 d3 T Kb i x' p' k0 ak ck X) (hw:Rd w R ad nn cap p0) (hj:j<x.hn) (u:Int):∃y,Rz w R ad nn cap q m x P d1 d2 d3 T Kb i y p' k0 ak ck (X.setCell ⟨P.g2,j*9+5,none⟩ (.i u)):=by
 have hj':j<x'.hn:=by rw[h.hn];exact hj
 have a:=h.b.setC hw (o:=j) (f:=5) hj' Zb (.i u) {x'.hs j with ob:={(x'.hs j).ob with b:=u}} rfl rfl TZ;have ff:=h.fit.hs j hj';have F:=(AB.refl (λq=>q=P.g2) X).setCell (p:=⟨P.g2,j*9+5,none⟩) rfl (.i u);have nb:=h.nk P.g2 (Az (AA (AA ⟨Za,rfl⟩)));refine⟨_,a,iB h.fit ⟨ff.k,ff.n,ff.t,ff.h,ff.s,ff.v⟩,h.n,h.fl,h.on,h.hn,h.os,λk=>?_,h.row.fr F (λe=>nb e.symm),h.K0,λq hq=>h.nk q ((Rn (y:={x'.hs j with ob:={(x'.hs j).ob with b:=u}}) rfl q).1 hq),h.q0,h.q1⟩;show(Cl x'.hs j _ k).t=_;by_cases e:k=j;.subst e;rw[Bf];exact h.t k
 .rw[BC _ _ e];exact h.t k
theorem Rz.setO (h:Rz w R ad nn cap q m x P d1 d2 d3 T Kb i x' p' k0 ak ck X) (hw:Rd w R ad nn cap p0) (hj:i<x.on) (u:Int):∃y,Rz w R ad nn cap q m x P d1 d2 d3 T Kb (i+1) y p' k0 ak ck (X.setCell ⟨P.g1,i*7+3,none⟩ (.i u)):=by
 have hj':i<x'.on:=by rw[h.on];exact hj
 have a:=h.b.setO hw (o:=i) (f:=3) hj' Zb (.i u) {x'.os i with b:=u} rfl rfl Pr;have ff:=h.fit.os i hj';have F:=(AB.refl (λq=>q=P.g1) X).setCell (p:=⟨P.g1,i*7+3,none⟩) rfl (.i u);have nb:=h.nk P.g1 (AA (AA ⟨Za,rfl⟩));refine⟨_,a,UQ h.fit ⟨ff.k,ff.n,ff.t,ff.h,ff.s,ff.v⟩,h.n,h.fl,h.on,h.hn,λk hk=>?_,h.t,h.row.fr F (λe=>nb e.symm),h.K0,λq hq=>h.nk q ((Rh (y:={x'.os i with b:=u}) rfl q).1 hq),h.q0,h.q1⟩;show Cl x'.os i _ k=_;rw[BC _ _ Za];exact h.os k Za
theorem Rz.fin (h:Rz w R ad nn cap q m x P d1 d2 d3 T Kb i x' p' k0 ak ck X) (hp:p<=q/\q+m<=p+k):xS w R ad nn cap p k T X:=by have q0:=h.q0;have q1:=h.q1;exact h.b.fin h.fit ⟨Za,Za⟩
theorem Xd (x:Bk) (a1 a2 a3:OA) (c1 c2 c3:Nat) (R:Nat) (ad:OA) (nn cap p:Nat) (w:World) (hr:Rd w R ad nn cap p) (hp:p<=300000) (hb:Ip w x a1 a2 a3 c3) (FO:∀b off,ad=some ⟨b,off,none⟩->b<w.1.size):Calls prog 44 #[.p R 0,.agg #[.i x.v,.i x.f,.l a1 x.on c1,.l a2 x.hn c2,.l a3 x.tn c3]] w λe w'=>Dr5 R ad nn cap p w e w':=by
 have Ic:=hr.lt;have HR:=Ab hr;have HB:=Ab hb;have MH:=Ab FO;have SJ:x.tn<=50:=Yh (PD hb.v);have GJ:=hb.v.on;have hhn:=hb.v.hn;have MU:Below w.1.size w ((w.alloc (.cells #[.i x.v,.i x.f,.l a1 x.on c1,.l a2 x.hn c2,.l a3 x.tn c3] 36)).alloc (.cells #[.i 0,.i 0,.l none 0 0,.l none 0 0,.l none 0 0] 36)):=((Ap _ _).alloc A9 _).alloc Ze _;have r2:=AE.new (w:=w.alloc (.cells #[.i x.v,.i x.f,.l a1 x.on c1,.l a2 x.hn c2,.l a3 x.tn c3] 36)) (l:=[.i 0,.i 0,.l none 0 0,.l none 0 0,.l none 0 0]) (t:=36) Dx;have n2:=Ys (w.alloc (.cells #[.i x.v,.i x.f,.l a1 x.on c1,.l a2 x.hn c2,.l a3 x.tn c3] 36));rw[Av]at r2 n2;have r1:=AE.new (w:=w) (l:=[.i x.v,.i x.f,.l a1 x.on c1,.l a2 x.hn c2,.l a3 x.tn c3]) (t:=36) (Ak _ (.cells #[.i 0,.i 0,.l none 0 0,.l none 0 0,.l none 0 0] 36));have hz:((w.alloc (.cells #[.i x.v,.i x.f,.l a1 x.on c1,.l a2 x.hn c2,.l a3 x.tn c3] 36)).alloc (.cells #[.i 0,.i 0,.l none 0 0,.l none 0 0,.l none 0 0] 36)).1.size=w.1.size+2:=Ze;have Ep:=Ab MU;have H1:=Ab r1;have H2:=Ab r2;have jX:=Ab n2;clear FO hr hb MU r1 r2 n2;go_enter func44,ntmps44;go_upto_region 1 with fail;generalize(w.alloc (.cells #[.i x.v,.i x.f,.l a1 x.on c1,.l a2 x.hn c2,.l a3 x.tn c3] 36)).alloc (.cells #[.i 0,.i 0,.l none 0 0,.l none 0 0,.l none 0 0] 36)=W at Ep H1 H2 jX hz⊢;obtain⟨s0,s1,s2,s3,s4⟩:=zI H1.cell;have sl:=H1.lt;go_upto_region 2 with(go_at_call 33;go_must(refine(Tx x a1 a2 a3 c1 c2 c3 _ 0 w.1.size (by rw[hz];omega) Za Za Za HB.f (HB.i.below Ep A9)).mono ?_;rintro e w4 ⟨P,d1,d2,d3,rfl,hP,Pc⟩));have hBA:=Ak w4 (.cells #[.i x.v,.i x.f,.l P.a1 x.on d1,.l P.a2 x.hn d2,.l P.a3 x.tn d3] 36);have HS:=Ab (show N4 w R ad nn cap p x P d1 d2 d3 w4.1.size (w4.alloc (.cells #[.i x.v,.i x.f,.l P.a1 x.on d1,.l P.a2 x.hn d2,.l P.a3 x.tn d3] 36))from⟨Aj (Ep.trans ((Pc.trans (hBA.mono Pc.size)).mono Ep.size)),((HR.below Ep).below Pc).below hBA,(H2.below Pc H2.lt).below hBA (Aa H2.lt Pc.size),(jX.below Pc H2.lt).below hBA (Aa H2.lt Pc.size),AE.new (l:=[.i x.v,.i x.f,.l P.a1 x.on d1,.l P.a2 x.hn d2,.l P.a3 x.tn d3]) (t:=36) Dx,U9 w4 x P.a1 P.a2 P.a3 d1 d2 d3,(hP.grow hBA).low Za,λq hq=>Jv.blt hP.d hq,(by have:=Pc.size;omega),⟨HB.v.on,HB.v.hn⟩⟩);generalize w4.alloc (.cells #[.i x.v,.i x.f,.l P.a1 x.on d1,.l P.a2 x.hn d2,.l P.a3 x.tn d3] 36)=X at HS⊢;generalize w4.1.size=T at HS⊢;clear s0 s1 s2 s3 s4 sl hP Pc hBA Ep H1 H2 jX hz;have t2:=HS.t.cell 2 Zb;have t3:=HS.t.cell 3 Zb;have tl:=HS.t.lt;simp only[AV,Ac,Ad]at t2 t3;go_upto_region 3 with(go_at_call 16;go_must(refine(Bt R ad nn cap _ (x.on:Nat) _ HS.r Za Za Za).mono ?_;rintro e w5 ⟨o,rfl,_,ho,Adf,Aes⟩));have cG:=Ab (HS.pick Ic Adf Aes);clear HS t2 t3 tl Adf Aes;have t2:=cG.t.cell 2 Zb;have t3:=cG.t.cell 3 Zb;have tl:=cG.t.lt;simp only[AV,Ac,Ad]at t2 t3;go_upto_region 4 with(go_at_call 16;go_must(refine(Bt R ad nn cap _ (x.hn:Nat) _ cG.r Za Za Za).mono ?_;rintro e w6 ⟨h,rfl,_,hh,Aer,Adg⟩));have MC:=Ab (cG.pick Ic Aer Adg);clear cG t2 t3 tl Aer Adg;go_cut[1,33](λ_ c wx=>∃b:Bool,c=.bool b/\(b=false->0<x.on/\0<x.hn)/\N4 w R ad nn cap (p+1+1) x P d1 d2 d3 T wx);case first=>
  have t2:=MC.t.cell 2 Zb;have t3:=MC.t.cell 3 Zb;have tl:=MC.t.lt;simp only[AV,Ac,Ad]at t2 t3;go_wp2_with fail;all_goals go_meet
  all_goals(first|exact⟨_,rfl,λh=>Ns,MC⟩|exact⟨_,rfl,λ_=>⟨Za,Za⟩,MC⟩|exact⟨_,rfl,λh=>(by simp at h;omega),MC⟩)
 case rest=>obtain⟨b,rfl,FV,hS⟩:=hcut;have gP:=Ab hS;clear hS MC;cases b with
  |true=>as_aux_lemma=>
   --<e1
   obtain⟨A0,A1,A2,A3,A4⟩:=JQ gP.a;have AF:=gP.a.free;have AL:=gP.a.lt;have HA:=Ab gP.a;go_wp2_with fail;have Z:=((((HA.set (o:=0) Zb (.i 1)).set (o:=1) Zb (.i 0)).set (o:=2) Zb (.l none 0 0)).set (o:=3) Zb (.l none 0 0)).set (o:=4) Zb (.l none 0 0);have y0:=Z.cell 0 Zb;have y1:=Z.cell 1 Zb;have y2:=Z.cell 2 Zb;have y3:=Z.cell 3 Zb;have y4:=Z.cell 4 Zb;simp[GR]at y0 y1 y2 y3 y4;refine bodyPost_ret (v:=.agg #[.i 1,.i 0,.l none 0 0,.l none 0 0,.l none 0 0]) (by simp[results,results44,go_sem,y0,y1,y2,y3,y4]) rfl ⟨{v:=1,f:=0,on:=0,os:=x.os,hn:=0,hs:=x.hs,tn:=0,ts:=x.ts},none,none,none,0,0,0,rfl,⟨λi hi=>absurd hi (Ae i),λi hi=>absurd hi (Ae i),λi hi=>absurd hi (Ae i)⟩,⟨by show((0:Nat):Int)<=_;decide,by show((0:Nat):Int)<=_;decide,by show((0:Nat):Int)<=_;decide,λi hi=>absurd hi (Ae i),λi hi=>absurd hi (Ae i),λi hi=>absurd hi (Ae i)⟩,⟨Ar _,Ar _⟩,?_,p+1+1,Za,Za,?_⟩;.exact((((gP.f.far Za _ _).far Za _ _).far Za _ _).far Za _ _).far Za _ _
   .exact HR.far (HR.far (HR.far (HR.far (HR.far gP.r Za _ _) Za _ _) Za _ _) Za _ _) Za _ _
   --e1>
  |false=>
   obtain⟨YU,Adz⟩:=FV rfl;clear FV;have La:o<x.on:=by have:=ho Za;omega
   have Y4:h<x.hn:=by have:=hh Za;omega
   go_upto_block 0 with(go_at_call 16;go_must(refine(Bt R ad nn cap _ 20 _ gP.r Za Zb Zb).mono ?_;rintro e w7 ⟨k,rfl,_,hk,Adi,Ad6⟩));have Aiz:=hk Zb;have Gz:=Ab (gP.pick Ic Adi Ad6);clear gP Adi Ad6 hk ho hh;refine wp_cut (λa' w'=>∃t:Nat->Value,(t 4=.p (w.1.size+1) 0/\t 5=.p T 0/\xS w R ad nn cap p 4000 T w')/\a'=⟨C9 t,[]⟩) ?rest ?first;case first=>
    intro _ _ _ _;have ix:=(HB.v.fit o La).1;have hpc:=HB.v.chg h Y4;have Nw:=HB.v.t h Y4;have v0:=HB.v.n0;have v1:=HB.v.n1;have v2:=HB.v.n2;have v3:=HB.v.hnow;have hpb:=Js ix;have htx:(x.os o).m.size<=300:=by simp only[Bv,As,decide_eq_true_eq]at ix;exact ix.2.2.2.2.1
    have LH:=Ab (Gz.c.d.spH (R:=R) (T:=T) (d1:=d1) (d2:=d2) (d3:=d3) La Y4 Gz.t (by have:=Gz.T0;omega) (λq hq e=>by have:=Gz.c.lo q hq;omega) ⟨Za,Za⟩ ⟨Za,Za⟩ ⟨Za,Za⟩ ⟨Za,Za⟩ ⟨Za,Za⟩ htx);have Ke:=Ab (HB.f.os o La);have Nz:=Ab (HB.f.hs h Y4);have h5:(x.os o).hn<=5:=by simp only[Bv,D7,As,decide_eq_true_eq]at ix;exact ix.2.2.2.2.2.1
    clear ix hpc Nw v0 v1 v2 v3 hpb htx;by_cases Ai7:k=18;.as_aux_lemma=>
     --<k18
     have HSB:=Ab Gz.b;have P1:=Ab HB.v.bnd;have t0:w7.cell? ⟨T,0,none⟩=some (.i x.v):=LH.row.cell 0 Zb;have t1:w7.cell? ⟨T,1,none⟩=some (.i x.f):=LH.row.cell 1 Zb;have t2:w7.cell? ⟨T,2,none⟩=some (.slice (some ⟨P.g1,0,none⟩) x.on d1):=LH.row.cell 2 Zb;have t3:w7.cell? ⟨T,3,none⟩=some (.slice (some ⟨P.g2,0,none⟩) x.hn d2):=LH.row.cell 3 Zb;have tf:=LH.row.free;have tl:=LH.row.lt;by_cases h1:1<x.on;.obtain⟨c,r,ec⟩:=Gz.c.d.o.row YU;have gT:=Gz.tb _ (AA (AA ⟨YU,rfl⟩));have g2:=r.cell 2 Za;have g9:=r.cell 9 Za;have gf:=r.free;have gl:=r.lt;have n1:¬P.g1=T:=Za;have n2:¬T=P.g1:=Za;clear ec r;go_wp2_with fail;have bn:=P1.n;obtain⟨y,hy,hyf⟩:=(HSB.bare (z:=w7.1.size) HR).ver2 HR h1 (Xo HB.f) x.v (az Za Za);refine C8 ?_;go_step;exact Gq ((hy.below Do).fin hyf ⟨Za,Za⟩) rfl rfl rfl
     .go_wp2_with fail;refine C8 ?_;go_step;exact Gq (((HSB.bare HR).below Do).fin (Xo HB.f) ⟨Za,Za⟩) rfl rfl rfl
     --k18>
    .skip;by_cases Ajj:k=19;.as_aux_lemma=>
      --<k19
      have HSB:=Ab Gz.b;have P1:=Ab HB.v.bnd;have t3:w7.cell? ⟨T,3,none⟩=some (.slice (some ⟨P.g2,0,none⟩) x.hn d2):=LH.row.cell 3 Zb;have q2:w7.cell? ⟨P.g2,h*9+2,none⟩=some (.s (x.hs h).ob.k):=LH.c2 2 Zb;have q3:w7.cell? ⟨P.g2,h*9+3,none⟩=some (.s (x.hs h).ob.n):=LH.c2 3 Zb;have q4:w7.cell? ⟨P.g2,h*9+4,none⟩=some (.i (x.hs h).ob.t):=LH.c2 4 Zb;have q5:w7.cell? ⟨P.g2,h*9+5,none⟩=some (.i (x.hs h).ob.b):=LH.c2 5 Zb;have q6:w7.cell? ⟨P.g2,h*9+6,none⟩=some (.s (x.hs h).ob.m):=LH.c2 6 Zb;have q7:w7.cell? ⟨P.g2,h*9+7,none⟩=some (.bool (x.hs h).ob.e):=LH.c2 7 Zb;have q8:w7.cell? ⟨P.g2,h*9+8,none⟩=some (.slice (P.A2 h) (x.hs h).ob.hn (P.C2 h)):=LH.c2 8 Zb;have ql:=LH.l2;have tl:=LH.lt;go_upto_region 16 with fail;have HK:=Ab (show Rz w R ad nn cap (p+1+1+1) 0 x P d1 d2 d3 T w7.1.size 0 x (p+1+1+1) (x.hs h).ob (P.A2 h) (P.C2 h) (w7.alloc (.cells #[.s (x.hs h).ob.k,.s (x.hs h).ob.n,.i (x.hs h).ob.t,.i (x.hs h).ob.b,.s (x.hs h).ob.m,.bool (x.hs h).ob.e,.l (P.A2 h) (x.hs h).ob.hn (P.C2 h)] 52))from HSB.start HB.f (x.hs h).ob (P.A2 h) (P.C2 h));clear q2 q3 q4 q5 q6 q7 q8 ql t3 tl HSB LH;generalize w7.alloc (.cells #[.s (x.hs h).ob.k,.s (x.hs h).ob.n,.i (x.hs h).ob.t,.i (x.hs h).ob.b,.s (x.hs h).ob.m,.bool (x.hs h).ob.e,.l (P.A2 h) (x.hs h).ob.hn (P.C2 h)] 52)=X1 at HK⊢;generalize w7.1.size=Kb at HK⊢;refine nj (AV [_,_,_,_,_,_]) R ad nn cap (p+1+1+1) T x P.g1 P.g2 P.a3 d1 d2 d3 o h (x.os o) (x.hs h) (P.A1 o) (P.A2 h) (P.C1 o) (P.C2 h) _ HK.b.r Za (HK.spH Ic P1 S4 La Y4) rfl _ ?_;intro t u pz X2 hu hf CO Dj AW;rw[hu];have HK3:Hid (SpK w R ad nn cap (p+1+1+1) 6 x P d1 d2 d3 T Kb 0 X2):=Ab ⟨_,_,_,_,_,(HK.pick Ic hf CO Dj AW).more Za A9⟩;clear HK hf AW hu CO Dj;go_wp2_with fail;go_loopw[10](λs wr=>∃i:Nat,s=.i i/\i<=x.hn/\Hid (SpK w R ad nn cap (p+1+1+1) (6+9*i) x P d1 d2 d3 T Kb 0 wr)) (λs _=>x.hn-(intOf s).toNat);case atStart=>exact⟨0,rfl,Ar _,Ab HK3.out⟩
      case round=>
       clear HK3;obtain⟨i,rfl,hi,HL⟩:=hrel;obtain⟨x',p',k0,ak,ck,hL⟩:=HL.out;have HC:=Ab hL;clear hL HL;have e3:=HC.t3 Adz;have tl:=HC.b.t.lt;have GM:=HC.q1;have hK0:=HC.K0;by_cases LU:i=x.hn;.--<k19c
        subst LU;have t2:=HC.t2 YU;go_wp2_with fail;go_loopw[11](λs wr=>∃i:Nat,s=.i i/\i<=x.on/\Hid (SpK w R ad nn cap (p+1+1+1) (6+9*x.hn+8*i) x P d1 d2 d3 T Kb i wr)) (λs _=>x.on-(intOf s).toNat);case atStart=>exact⟨0,rfl,Ar _,Ab ⟨x',p',k0,ak,ck,HC⟩⟩
        case round=>
         clear HC e3 tl GM t2 hK0 k0 ak ck p' x';obtain⟨i,rfl,hi,HL⟩:=hrel;obtain⟨x',p',k0,ak,ck,hL⟩:=HL.out;have HC:=Ab hL;clear hL HL;have e2:=HC.t2 YU;have tl:=HC.b.t.lt;have GM:=HC.q1;have hK0:=HC.K0;by_cases LU:i=x.on;.subst LU;go_wp2_with fail;refine C8 ?_;go_step;exact Gq (HC.fin ⟨Za,Za⟩) rfl rfl rfl
         .have hlt:i<x.on:=Za;have Ahg:(i:Int)<(x.on:Int):=Za;go_upto_region 25 with fail;refine qk (AV [_,_,_,_,_,_,_,_]) R ad nn cap p' T x' P.g1 P.g2 P.a3 d1 d2 d3 i h (x'.os i) (x'.hs h) (P.A1 i) (P.A2 h) (P.C1 i) (P.C2 h) Kb k0 ak ck _ HC.b.r Za (HC.spH Ic P1 A9 hlt Y4) HC.row Za rfl _ ?_;intro t b pz Y hb8 hf CO Dj AW;rw[hb8];have fP:=Ab (HC.pick Ic hf CO Dj AW);have e2:=fP.t2 YU;have HH:=fP.spH Ic P1 A9 hlt Y4;have c3:Y.cell? ⟨P.g1,i*7+3,none⟩=some (.i (x'.os i).b):=HH.c1 3 Zb;have cf:=HH.f1;have cl:=HH.l1;have tl:=HH.lt;clear HC hf AW hb8 HH;cases b with
          |false=>
           go_wp2_with fail;go_roundw;case rel=>exact⟨i+1,Ze,Za,Ab ⟨_,_,_,_,_,fP.more Za Za⟩⟩
           case measure=>simp[intOf];omega
          |true=>go_wp2_with fail;obtain⟨y,hy⟩:=fP.setO HR hlt u;exact xe
        --k19c>
       .have hlt:i<x.hn:=Za;have Ahg:(i:Int)<(x.hn:Int):=Za;go_upto_region 20 with fail;refine qs (AV [_,_,_,_,_,_,_,_,_]) R ad nn cap p' T x' P.g1 P.g2 P.a3 d1 d2 d3 o i (x'.os o) (x'.hs i) (P.A1 o) (P.A2 i) (P.C1 o) (P.C2 i) Kb k0 ak ck _ HC.b.r Za (HC.spH Ic P1 S4 La hlt) HC.row Za rfl _ ?_;intro t b pz Y hb8 hf CO Dj AW;rw[hb8];have fP:=Ab (HC.pick Ic hf CO Dj AW);have e3:=fP.t3 Adz;have HH:=fP.spH Ic P1 S4 La hlt;have c5:Y.cell? ⟨P.g2,i*9+5,none⟩=some (.i (x'.hs i).ob.b):=HH.c2 5 Zb;have cf:=HH.f2;have cl:=HH.l2;have tl:=HH.lt;clear HC hf AW hb8 HH;cases b with
        |false=>
         go_wp2_with fail;go_roundw;case rel=>exact⟨i+1,Ze,Za,Ab ⟨_,_,_,_,_,fP.more Za A9⟩⟩
         case measure=>simp[intOf];omega
        |true=>go_wp2_with fail;obtain⟨y,hy⟩:=fP.setC HR hlt u;exact xe
        --k19d>
      --k19b>
      --k19a>
      --k19>
     .skip;by_cases ke:k=0;.as_aux_lemma=>go_wp2_with fail;refine qy ⟨rfl,rfl,rfl,rfl,rfl⟩ Gz.r Za LH ?_;intro t u pz X0 hu hf CO Dj AW;go_wp2_with fail;refine C8 ?_;go_step;exact Gq ((Gz.pick Ic hf AW).head HR (o:=0) Zb {x with v:=u} P.a1 P.a2 P.a3 d1 d2 d3 (λj hj=>by rcases(show j=0\/j=1\/j=2\/j=3\/j=4 by omega)with rfl|rfl|rfl|rfl|rfl<;>rfl) (show BL _ 0 X0.1.size _ _ _ _ from(λb:BL (X0.setCell ⟨T,0,none⟩ (.i u)) 0 X0.1.size x P.a1 P.a2 P.a3=>⟨b.o,b.h,b.t⟩) (((Gz.pick Ic hf AW).c.d.isIn (λ_ _=>Ar _)).box ((AB.refl (λq=>q=T) X0).setCell (p:=⟨T,0,none⟩) rfl _) (Gz.pick Ic hf AW).tn A9)) ⟨HB.f.o,HB.f.h,HB.f.t,HB.f.os,HB.f.hs,HB.f.ts⟩ ⟨Za,Za⟩) rfl rfl rfl
       --k0>
      .skip;by_cases pH:k=1;.as_aux_lemma=>go_wp2_with fail;refine ou ⟨rfl,rfl,rfl,rfl,rfl⟩ Gz.r Za LH ?_;intro t u pz X0 hu hf CO Dj AW;go_wp2_with fail;refine C8 ?_;go_step;exact Gq ((Gz.pick Ic hf AW).head HR (o:=1) Zb {x with f:=u} P.a1 P.a2 P.a3 d1 d2 d3 (λj hj=>by rcases(show j=0\/j=1\/j=2\/j=3\/j=4 by omega)with rfl|rfl|rfl|rfl|rfl<;>rfl) (show BL _ 0 X0.1.size _ _ _ _ from(λb:BL (X0.setCell ⟨T,1,none⟩ (.i u)) 0 X0.1.size x P.a1 P.a2 P.a3=>⟨b.o,b.h,b.t⟩) (((Gz.pick Ic hf AW).c.d.isIn (λ_ _=>Ar _)).box ((AB.refl (λq=>q=T) X0).setCell (p:=⟨T,1,none⟩) rfl _) (Gz.pick Ic hf AW).tn A9)) ⟨HB.f.o,HB.f.h,HB.f.t,HB.f.os,HB.f.hs,HB.f.ts⟩ ⟨Za,Za⟩) rfl rfl rfl
        --k1>
       .skip;by_cases cC:k=2;.as_aux_lemma=>go_wp2_with fail;refine sq ⟨rfl,rfl,rfl,rfl,rfl⟩ Gz.r Za LH ?_;intro t u pz X0 hu hf CO Dj AW;go_wp2_with fail;refine C8 ?_;go_step;exact Gq ((Gz.pick Ic hf AW).cell HR (AA (AA ⟨Za,rfl⟩)) _ ((Gz.pick Ic hf AW).c.d.setO (o:=o) (f:=2) La Zb (.i u) {x.os o with t:=u} rfl rfl Pr) rfl rfl rfl rfl rfl (UQ HB.f ⟨Ke.k,Ke.n,Ke.t,Ke.h,Ke.s,az (by have:=hu.1;show(-100000000:Int)<=u;omega) (by have:=hu.2;show u<=100000000;omega)⟩) ⟨Za,Za⟩) rfl rfl rfl
         --k2>
        .skip;by_cases ue:k=3;.as_aux_lemma=>go_wp2_with fail;refine qt ⟨rfl,rfl,rfl,rfl,rfl⟩ Gz.r Za LH ?_;intro t u pz X0 hu hf CO Dj AW;go_wp2_with fail;refine C8 ?_;go_step;exact Gq ((Gz.pick Ic hf AW).cell HR (AA (AA ⟨Za,rfl⟩)) _ ((Gz.pick Ic hf AW).c.d.setO (o:=o) (f:=3) La Zb (.i u) {x.os o with b:=u} rfl rfl Pr) rfl rfl rfl rfl rfl (UQ HB.f ⟨Ke.k,Ke.n,Ke.t,Ke.h,Ke.s,Ke.v⟩) ⟨Za,Za⟩) rfl rfl rfl
          --k3>
         .skip;by_cases hk4:k=4;.as_aux_lemma=>go_wp2_with fail;refine ma ⟨rfl,rfl,rfl,rfl,rfl⟩ Gz.r Za LH ?_;intro t u pz X0 hu hf CO Dj AW;go_wp2_with fail;refine C8 ?_;go_step;exact Gq ((Gz.pick Ic hf AW).cell HR (AA (AA ⟨Za,rfl⟩)) _ ((Gz.pick Ic hf AW).c.d.setO (o:=o) (f:=4) La Zb (.s u) {x.os o with m:=u} rfl rfl Pr) rfl rfl rfl rfl rfl (UQ HB.f ⟨Ke.k,Ke.n,by have h1:=hu;show(u.size:Int)<=_;omega,Ke.h,Ke.s,Ke.v⟩) ⟨Za,Za⟩) rfl rfl rfl
           --k4>
          .skip;by_cases hk5:k=5;.as_aux_lemma=>go_wp2_with fail;refine sv ⟨rfl,rfl,rfl,rfl,rfl⟩ Gz.r Za LH ?_;intro t u pz X0 hu hf CO Dj AW;go_wp2_with fail;refine C8 ?_;go_step;exact Gq ((Gz.pick Ic hf AW).cell HR (AA (AA ⟨Za,rfl⟩)) _ ((Gz.pick Ic hf AW).c.d.setO (o:=o) (f:=5) La Zb (.bool u) {x.os o with e:=u} rfl rfl Pr) rfl rfl rfl rfl rfl (UQ HB.f ⟨Ke.k,Ke.n,Ke.t,Ke.h,Ke.s,Ke.v⟩) ⟨Za,Za⟩) rfl rfl rfl
            --k5>
           .skip;by_cases hk6:k=6;.as_aux_lemma=>obtain⟨gA,hA,Sr,VJ⟩:=Gz.spL HR MH La h5;have HA:=Ab hA;have j0:=Ab Sr;clear hA Sr;go_wp2_with fail;refine sh ⟨rfl,rfl,rfl,rfl,rfl⟩ Gz.r Za LH HA ?_;intro t sx Ka cp1 g1 pz X0 hu hf CO Dj AW;go_wp2_with fail;refine C8 ?_;go_step;exact Gq (Gz.hold HR La h5 j0 VJ HB.f hu hf AW ⟨Za,Za⟩) rfl rfl rfl
             --k6>
            .skip;by_cases hk7:k=7;.as_aux_lemma=>obtain⟨cA,hA,Sr,VJ⟩:=Gz.spO HR MH GJ YU;have HA:=Ab hA;have j0:=Ab Sr;clear hA Sr;go_wp2_with fail;refine lz ⟨rfl,rfl,rfl,rfl,rfl⟩ Gz.r Za LH HA ?_;intro t Ka cp1 g1 pz X0 hu hf CO Dj AW;go_wp2_with fail;refine C8 ?_;go_step;exact Gq (Gz.objs HR La GJ j0 VJ HB.f hu hf AW ⟨Za,Za⟩) rfl rfl rfl
              --k7>
             .skip;by_cases hk8:k=8;.as_aux_lemma=>obtain⟨cA,hA,Sr,VJ⟩:=Gz.spO HR MH GJ YU;have HA:=Ab hA;have j0:=Ab Sr;clear hA Sr;go_wp2_with fail;refine mh ⟨rfl,rfl,rfl,rfl,rfl⟩ Gz.r Za LH HA ?_;intro t pz X0 hu hf CO Dj AW;go_wp2_with fail;refine C8 ?_;go_step;exact Gq (Gz.dele HR La GJ j0 VJ HB.f hu hf AW ⟨Za,Za⟩) rfl rfl rfl
               --k8>
              .skip;by_cases hk9:k=9;.as_aux_lemma=>go_wp2_with fail;refine px ⟨rfl,rfl,rfl,rfl,rfl⟩ Gz.r Za LH ?_;intro t u pz X0 hu hf CO Dj AW;go_wp2_with fail;refine C8 ?_;go_step;exact Gq ((Gz.pick Ic hf AW).cell HR (Az (AA (AA ⟨Za,rfl⟩))) _ ((Gz.pick Ic hf AW).c.d.setC (o:=h) (f:=1) Y4 Zb (.bool u) {x.hs h with g:=u} rfl rfl TZ) rfl rfl rfl rfl rfl (iB HB.f ⟨Nz.k,Nz.n,Nz.t,Nz.h,Nz.s,Nz.v⟩) ⟨Za,Za⟩) rfl rfl rfl
                --k9>
               .skip;by_cases Ajf:k=10;.as_aux_lemma=>go_wp2_with fail;refine mt ⟨rfl,rfl,rfl,rfl,rfl⟩ Gz.r Za LH ?_;intro t u pz X0 hu hf CO Dj AW;go_wp2_with fail;refine C8 ?_;go_step;exact Gq ((Gz.pick Ic hf AW).cell HR (Az (AA (AA ⟨Za,rfl⟩))) _ ((Gz.pick Ic hf AW).c.d.setC (o:=h) (f:=0) Y4 Zb (.i u) {x.hs h with t:=u} rfl rfl TZ) rfl rfl rfl rfl rfl (iB HB.f ⟨Nz.k,Nz.n,Nz.t,Nz.h,Nz.s,Nz.v⟩) ⟨Za,Za⟩) rfl rfl rfl
                 --k10>
                .skip;by_cases Ajx:k=11;.as_aux_lemma=>go_wp2_with fail;refine nt ⟨rfl,rfl,rfl,rfl,rfl⟩ Gz.r Za LH ?_;intro t u pz X0 hu hf CO Dj AW;go_wp2_with fail;refine C8 ?_;go_step;exact Gq ((Gz.pick Ic hf AW).cell HR (Az (AA (AA ⟨Za,rfl⟩))) _ ((Gz.pick Ic hf AW).c.d.setC (o:=h) (f:=5) Y4 Zb (.i u) {x.hs h with ob:={(x.hs h).ob with b:=u}} rfl rfl TZ) rfl rfl rfl rfl rfl (iB HB.f ⟨Nz.k,Nz.n,Nz.t,Nz.h,Nz.s,Nz.v⟩) ⟨Za,Za⟩) rfl rfl rfl
                  --k11>
                 .skip;by_cases Ajg:k=12;.as_aux_lemma=>go_wp2_with fail;refine pe ⟨rfl,rfl,rfl,rfl,rfl⟩ Gz.r Za LH ?_;intro t u pz X0 hu hf CO Dj AW;go_wp2_with fail;refine C8 ?_;go_step;exact Gq ((Gz.pick Ic hf AW).cell HR (Az (AA (AA ⟨Za,rfl⟩))) _ ((Gz.pick Ic hf AW).c.d.setC (o:=h) (f:=3) Y4 Zb (.s u) {x.hs h with ob:={(x.hs h).ob with n:=u}} rfl rfl TZ) rfl rfl rfl rfl rfl (iB HB.f ⟨Nz.k,by have h1:=hu;show(u.size:Int)<=_;omega,Nz.t,Nz.h,Nz.s,Nz.v⟩) ⟨Za,Za⟩) rfl rfl rfl
                   --k12>
                  .skip;by_cases Ajr:k=13;.as_aux_lemma=>
                    --<k13
                    have t3:w7.cell? ⟨T,3,none⟩=some (.slice (some ⟨P.g2,0,none⟩) x.hn d2):=LH.row.cell 3 Zb;have tf:=LH.row.free;have tl:=LH.row.lt;have jy:=Gz.c.h;by_cases hd:d2=1;.have HD:Hid (∀b:Option Addr,0<x.hn-1->b=some ⟨P.g2,9,none⟩):=Ab (λb e=>by omega);go_wp2_with fail;refine C8 ?_;go_step;exact Gq (Gz.drop HR Za (HD _) HB.f ⟨Za,Za⟩) rfl rfl rfl
                    .go_wp2_with fail;refine C8 ?_;go_step;exact Gq (Gz.drop HR Za (λ_=>rfl) HB.f ⟨Za,Za⟩) rfl rfl rfl
                    --k13>
                   .skip;by_cases Ajc:k=14;.as_aux_lemma=>obtain⟨gA,hA,Sr,VJ⟩:=Gz.spT HR MH SJ;have HA:=Ab hA;have j0:=Ab Sr;clear hA Sr;go_wp2_with fail;refine pd ⟨rfl,rfl,rfl,rfl,rfl⟩ Gz.r Za LH HA ?_;intro t kt Ka cp1 g1 pz X0 hu hf CO Dj AW;go_wp2_with fail;refine C8 ?_;go_step;exact Gq (Gz.tick HR j0 VJ SJ HB.f hu hf AW ⟨Za,Za⟩) rfl rfl rfl
                     --k14>
                    .skip;by_cases Aje:k=15;.as_aux_lemma=>obtain⟨gA,hA,Sr,VJ⟩:=Gz.spT HR MH SJ;have HA:=Ab hA;have j0:=Ab Sr;clear hA Sr;go_wp2_with fail;refine pw ⟨rfl,rfl,rfl,rfl,rfl⟩ Gz.r Za LH HA ?_;intro t kt Ka cp1 g1 pz X0 hu hf CO Dj AW;go_wp2_with fail;refine C8 ?_;go_step;exact Gq (Gz.tick HR j0 VJ SJ HB.f hu hf AW ⟨Za,Za⟩) rfl rfl rfl
                      --k15>
                     .skip;by_cases Ajt:k=16;.as_aux_lemma=>go_wp2_with fail;refine qx ⟨rfl,rfl,rfl,rfl,rfl⟩ Gz.r Za LH ?_;intro t u pz X0 hu hf CO Dj AW;go_wp2_with fail;refine C8 ?_;go_step;exact Gq ((Gz.pick Ic hf AW).cell HR (AA (AA ⟨Za,rfl⟩)) _ ((Gz.pick Ic hf AW).c.d.setO (o:=o) (f:=0) La Zb (.s u) {x.os o with k:=u} rfl rfl Pr) rfl rfl rfl rfl rfl (UQ HB.f ⟨by have h1:=hu;show(u.size:Int)<=_;omega,Ke.n,Ke.t,Ke.h,Ke.s,Ke.v⟩) ⟨Za,Za⟩) rfl rfl rfl
                       --k16>
                      .skip;have Aht:k=17:=Za;have _q:=Aht;skip;go_wp2_with fail;refine Acq ⟨rfl,rfl,rfl,rfl,rfl⟩ Gz.r Za LH ?_;intro t u pz X0 hu hf CO Dj AW;go_wp2_with fail;refine C8 ?_;go_step;exact Gq ((Gz.pick Ic hf AW).cell HR (Az (AA (AA ⟨Za,rfl⟩))) _ ((Gz.pick Ic hf AW).c.d.setC (o:=h) (f:=7) Y4 Zb (.bool u) {x.hs h with ob:={(x.hs h).ob with e:=u}} rfl rfl TZ) rfl rfl rfl rfl rfl (iB HB.f ⟨Nz.k,Nz.n,Nz.t,Nz.h,Nz.s,Nz.v⟩) ⟨Za,Za⟩) rfl rfl rfl
    --c0>
   case rest=>as_aux_lemma=>
    --<fin
    intro _ wc Ag4;obtain⟨t,⟨ht4,ht5,hcut⟩,ha⟩:=Ag4;subst ha;dsimp only[C9];have HF:=Ab hcut;clear hcut Gz;obtain⟨y,b1,b2,b3,e1,e2,e3,p',hq,hf,AW,ha,han,ht,Cs,BG,JP⟩:=HF.out;obtain⟨z0,z1,z2,z3,z4⟩:=JQ ht;have zl:=ht.lt;obtain⟨A0,A1,A2,A3,A4⟩:=JQ ha;have AF:=ha.free;have AL:=ha.lt;have HA:=Ab ha;have HAN:=Ab han;have HI:=Ab Cs;have HFF:=Ab hf;have gH:=Ab AW;clear ha han Cs hf AW ht HF;go_wp2_with fail;have F:=(((((AB.refl (λq=>q=w.1.size+1) wc).setCell (p:=⟨w.1.size+1,0,none⟩) rfl (.i y.v)).setCell (p:=⟨w.1.size+1,1,none⟩) rfl (.i y.f)).setCell (p:=⟨w.1.size+1,2,none⟩) rfl (.l b1 y.on e1)).setCell (p:=⟨w.1.size+1,3,none⟩) rfl (.l b2 y.hn e2)).setCell (p:=⟨w.1.size+1,4,none⟩) rfl (.l b3 y.tn e3);have Z:=((((HA.set (o:=0) Zb (.i y.v)).set (o:=1) Zb (.i y.f)).set (o:=2) Zb (.l b1 y.on e1)).set (o:=3) Zb (.l b2 y.hn e2)).set (o:=4) Zb (.l b3 y.tn e3);have y0:=Z.cell 0 Zb;have y1:=Z.cell 1 Zb;have y2:=Z.cell 2 Zb;have y3:=Z.cell 3 Zb;have y4:=Z.cell 4 Zb;simp[GR]at y0 y1 y2 y3 y4;refine bodyPost_ret (v:=.agg #[.i y.v,.i y.f,.l b1 y.on e1,.l b2 y.hn e2,.l b3 y.tn e3]) (by simp[results,results44,go_sem,ht4,y0,y1,y2,y3,y4]) rfl ⟨y,b1,b2,b3,e1,e2,e3,rfl,(HI.box F HAN A9).upTo F.size,BG,JP,?_,p',Za,Za,?_⟩;.exact((((HFF.far Za _ _).far Za _ _).far Za _ _).far Za _ _).far Za _ _
    .exact HR.far (HR.far (HR.far (HR.far (HR.far gH Za _ _) Za _ _) Za _ _) Za _ _) Za _ _
    --fin>
end Go.Proofs.YtdknjmgdgnmhjaaGreat
