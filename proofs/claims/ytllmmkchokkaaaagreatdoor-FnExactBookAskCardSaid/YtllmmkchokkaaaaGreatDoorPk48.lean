import Derived.Test.YtllmmkchokkaaaaGreatDoorPk47
set_option maxRecDepth 100000
set_option maxHeartbeats 4000000
namespace Go.Proofs.YtllmmkchokkaaaaGreatDoor
open Go.RowKit Go.Maps Go.Proofs.Tryz
theorem TG{P:Program}{id:Nat}{ops:Array Oper}{Q:Exit->Act->World->Prop}{a0:Act}{W:World}(hm:P.follows .mixedOrders=true) (n a b s1 s2 m1 m2 v1 v2:Nat) (keep:Nat->Bool)(mk:(Nat->Value)->Array Value) (t0:Nat->Value) (G:Nat->Value->World->Prop) (B1 B2:Nat->Value->World->Prop)(hn:ops.size=n) (hd:(¬a=b/\¬a=s1/\¬a=s2/\¬b=s1/\¬b=s2/\¬s1=s2)/\(¬v1=a/\¬v1=b/\¬v1=s1/\¬v1=s2)/\(¬v2=a/\¬v2=b/\¬v2=s1/\¬v2=s2)/\a<n/\b<n/\s1<n/\s2<n/\v1<n/\v2<n) (hord:((List.range ops.size).all λi=>match ops[i]? with|some o=>o.after.all (λe=>!(Region.binds .any e)||decide (e.on<i))|none=>true)=true)(w1:BU ops s1 a/\BU ops s1 v1) (w2:BU ops s2 b/\BU ops s2 v2/\BU ops s2 s1) (hk2:keep v2=true)(st:∀i v X Y,i<n->G i v X->Below X.1.size X Y->G i v Y)(stS:∀i v X Y z,i<n->keep i=true->G i v X->KP X z->AP (λq=>q=z) X Y->G i v Y)(st1:∀z v X Y,B1 z v X->z<X.1.size->Below X.1.size X Y->B1 z v Y) (st1S:∀z v X Y y,B1 z v X->z<X.1.size->¬z=y->KP X y->AP (λq=>q=y) X Y->B1 z v Y)(st2:∀z v X Y,B2 z v X->z<X.1.size->Below X.1.size X Y->B2 z v Y) (st2S:∀z v X Y y,B2 z v X->z<X.1.size->¬z=y->KP X y->AP (λq=>q=y) X Y->B2 z v Y)(h0:a0=⟨mk t0,[]⟩)(sg:∀i,i<n->¬i=a->¬i=b->¬i=s1->¬i=s2->∀(t:Nat->Value) X K,Below W.1.size W X->(∀j,BU ops i j->¬j=a->¬j=b->¬j=s1->¬j=s2->(BU ops s1 i\/keep j=true)->G j (t j) X)->(∀v Y,G i v Y->Below X.1.size X Y->K ⟨mk (AF t i v),[]⟩ Y)->wpOp P ops Q i K ⟨mk t,[]⟩ X)(sa:∀(t:Nat->Value) X K,(∀Y,Bo Y X.1.size m1->Below X.1.size X Y->K ⟨mk (AF t a (.p (X.1.size) 0)),[]⟩ Y)->wpOp P ops Q a K ⟨mk t,[]⟩ X)(sb:∀(t:Nat->Value) X K,(∀Y,Bo Y X.1.size m2->Below X.1.size X Y->K ⟨mk (AF t b (.p (X.1.size) 0)),[]⟩ Y)->wpOp P ops Q b K ⟨mk t,[]⟩ X)(ss1:∀(t:Nat->Value) X K z,t a=.p z 0->Bo X z m1->G v1 (t v1) X->(∀v Y,B1 z (t v1) Y->Bo Y z m1->AP (λq=>q=z) X Y->K ⟨mk (AF t s1 v),[]⟩ Y)->wpOp P ops Q s1 K ⟨mk t,[]⟩ X)(ss2:∀(t:Nat->Value) X K z,t b=.p z 0->Bo X z m2->G v2 (t v2) X->(∀v Y,B2 z (t v2) Y->Bo Y z m2->AP (λq=>q=z) X Y->K ⟨mk (AF t s2 v),[]⟩ Y)->wpOp P ops Q s2 K ⟨mk t,[]⟩ X)(hfin:∀t X z y,Below W.1.size W X->t a=.p z 0->t b=.p y 0->W.1.size<=z->W.1.size<=y->¬z=y->Bo X z m1->Bo X y m2->B1 z (t v1) X->B2 y (t v2) X->Q .normal ⟨mk t,[]⟩ X):(Code.region id ops true).wp P Q a0 W:=by
 obtain⟨⟨ab,a1',a2',b1',b2',s12⟩,⟨va,vb,vs1,vs2⟩,⟨ua,ub,us1,us2⟩,la,lb,ls1,ls2,lv1,lv2⟩:=hd;have hlt:∀i j,BU ops i j->i<n->j<i:=λi j hj hi=>by obtain⟨o,ho,e,he,hbd,rfl⟩:=hj;have h1:=BO.1 hord i (by rw[hn];simpa using hi);simp only[ho]at h1;have h2:=(Bn.1 h1) e he;rw[hbd]at h2;simpa using h2
 refine Mw hm n mk t0 (λf t X=>Below W.1.size W X/\(∀i,i<n->¬i=a->¬i=b->¬i=s1->¬i=s2->f i=true->(f s1=false\/keep i=true)->G i (t i) X)/\(f a=true->∃z,t a=.p z 0/\W.1.size<=z/\Bo X z m1/\(f s1=true->B1 z (t v1) X))/\(f b=true->∃z,t b=.p z 0/\W.1.size<=z/\Bo X z m2/\(f s2=true->B2 z (t v2) X))/\(f a=true->f b=true->¬t a=t b)) hn hord h0 ?_ ?_ ?_
 .intro f hf;exact⟨(Ak _ _).drew,λi _ _ _ _ _ h _=>by(rw[hf]at h;cases h),λh=>by(rw[hf]at h;cases h),λh=>by(rw[hf]at h;cases h),λh=>by(rw[hf]at h;cases h)⟩
 .rintro i hi f t X K ⟨hA,hG,h1,h2,hD⟩ hfi hwi hcl hK;by_cases e1:i=a
  .subst e1;have fs:f s1=false:=by cases q:f s1 with
    |false=>rfl
    |true=>rw[hcl s1 i w1.1 q]at hfi;cases hfi
   refine sa t X K (λY hB hY=>hK _ Y (λg gi gj=>⟨hA.trans (hY.mono hA.size),λj hj q1 q2 q3 q4 h hkp=>?_,λ_=>⟨X.1.size,by rw[Ce],hA.size,hB,λh=>?_⟩,λh=>?_,λ_ h=>?_⟩))
   .rw[AK q1];rw[gj j q1]at h;exact st j _ X Y hj (hG j hj q1 q2 q3 q4 h (AD fs)) hY
   .rw[gj s1 (λq=>a1' q.symm),fs]at h;cases h
   .rw[gj b (λq=>ab q.symm)]at h;obtain⟨z,k1,k2,k3,k4⟩:=h2 h;rw[AK (λq=>ab q.symm),AK ua];exact⟨z,k1,k2,k3.fr (Aq (P:=λ_=>False) hY) (λq=>q),λq=>st2 z _ X Y (k4 (by rw[gj s2 (λq=>a2' q.symm)]at q;exact q)) k3.lt hY⟩
   .rw[gj b (λq=>ab q.symm)]at h;obtain⟨z,k1,k2,k3,k4⟩:=h2 h;rw[Ce,AK (λq=>ab q.symm),k1];intro q;have:=k3.lt;injection q with q;injection q with q;injection q with q;omega
  by_cases e2:i=b
  .subst e2;have fs:f s2=false:=by cases q:f s2 with
    |false=>rfl
    |true=>rw[hcl s2 i w2.1 q]at hfi;cases hfi
   refine sb t X K (λY hB hY=>hK _ Y (λg gi gj=>⟨hA.trans (hY.mono hA.size),λj hj q1 q2 q3 q4 h hkp=>?_,λh=>?_,λ_=>⟨X.1.size,by rw[Ce],hA.size,hB,λh=>?_⟩,λh _=>?_⟩));.rw[AK q2];rw[gj j q2]at h;rw[gj s1 (λq=>b1' q.symm)]at hkp;exact st j _ X Y hj (hG j hj q1 q2 q3 q4 h hkp) hY
   .rw[gj a ab]at h;obtain⟨z,k1,k2,k3,k4⟩:=h1 h;rw[AK ab,AK vb];exact⟨z,k1,k2,k3.fr (Aq (P:=λ_=>False) hY) (λq=>q),λq=>st1 z _ X Y (k4 (by rw[gj s1 (λq=>b1' q.symm)]at q;exact q)) k3.lt hY⟩
   .rw[gj s2 (λq=>b2' q.symm),fs]at h;cases h
   .rw[gj a ab]at h;obtain⟨z,k1,k2,k3,k4⟩:=h1 h;rw[Ce,AK ab,k1];intro q;have:=k3.lt;injection q with q;injection q with q;injection q with q;omega
  by_cases e3:i=s1
  .subst e3;obtain⟨z,k1,k2,k3,k4⟩:=h1 (hwi a w1.1);refine ss1 t X K z k1 k3 (hG v1 lv1 va vb vs1 vs2 (hwi v1 w1.2) (AD hfi)) (λv Y hB hBo hY=>hK v Y (λg gi gj=>⟨hA.trans (hY.below (λq hq e=>by have e':q=z:=e;omega) hA.size),λj hj q1 q2 q3 q4 h hkp=>?_,λ_=>⟨z,by rw[AK a1'];exact k1,k2,hBo,λ_=>by rw[AK vs1];exact hB⟩,λh=>?_,λq1 q2=>?_⟩))
   .rw[AK q3];rw[gj j q3]at h;rcases hkp with hkp|hkp;.rw[gi]at hkp;cases hkp
    .exact stS j _ X Y z hj hkp (hG j hj q1 q2 q3 q4 h (Ax hkp)) k3.no hY
   .rw[gj b b1']at h;obtain⟨y,j1,j2,j3,j4⟩:=h2 h;have ny:¬y=z:=λe=>hD (hwi a w1.1) h (by rw[k1,j1,e]);rw[AK b1',AK us1];exact⟨y,j1,j2,j3.fr hY ny,λq=>st2S y _ X Y z (j4 (by rw[gj s2 (λq=>s12 q.symm)]at q;exact q)) j3.lt ny k3.no hY⟩
   .rw[gj b b1']at q2;rw[AK a1',AK b1'];exact hD (hwi a w1.1) q2
  by_cases e4:i=s2
  .subst e4;obtain⟨z,k1,k2,k3,k4⟩:=h2 (hwi b w2.1);refine ss2 t X K z k1 k3 (hG v2 lv2 ua ub us1 us2 (hwi v2 w2.2.1) (Ax hk2)) (λv Y hB hBo hY=>hK v Y (λg gi gj=>⟨hA.trans (hY.below (λq hq e=>by have e':q=z:=e;omega) hA.size),λj hj q1 q2 q3 q4 h hkp=>?_,λh=>?_,λ_=>⟨z,by rw[AK b2'];exact k1,k2,hBo,λ_=>by rw[AK us2];exact hB⟩,λq1 q2=>?_⟩))
   .rw[AK q4];rw[gj j q4]at h;rw[gj s1 s12]at hkp;rcases hkp with hkp|hkp;.rw[hwi s1 w2.2.2]at hkp;cases hkp
    .exact stS j _ X Y z hj hkp (hG j hj q1 q2 q3 q4 h (Ax hkp)) k3.no hY
   .rw[gj a a2']at h;obtain⟨y,j1,j2,j3,j4⟩:=h1 h;have ny:¬y=z:=λe=>hD h (hwi b w2.1) (by rw[k1,j1,e]);rw[AK a2',AK vs2];exact⟨y,j1,j2,j3.fr hY ny,λq=>st1S y _ X Y z (j4 (by rw[gj s1 s12]at q;exact q)) j3.lt ny k3.no hY⟩
   .rw[gj a a2']at q1;rw[AK a2',AK b2'];exact hD q1 (hwi b w2.1)
  .refine sg i hi e1 e2 e3 e4 t X K hA (λj hj q1 q2 q3 q4 hkp=>hG j (Nat.lt_trans (hlt i j hj hi) hi) q1 q2 q3 q4 (hwi j hj) (hkp.imp (λhw=>by cases q:f s1 with
    |false=>rfl
    |true=>rw[hcl s1 i hw q]at hfi;cases hfi) (λq=>q))) (λv Y hv hY=>hK v Y (λg gi gj=>⟨hA.trans (hY.mono hA.size),λj hj q1 q2 q3 q4 h hkp=>?_,λh=>?_,λh=>?_,λq1 q2=>?_⟩))
   .rw[gj s1 (λq=>e3 q.symm)]at hkp;by_cases e:j=i
    .subst e;rw[Ce];exact hv
    .rw[AK e];rw[gj j e]at h;exact st j _ X Y hj (hG j hj q1 q2 q3 q4 h hkp) hY
   .rw[gj a (λq=>e1 q.symm)]at h;obtain⟨z,k1,k2,k3,k4⟩:=h1 h;rw[AK (λq=>e1 q.symm)];refine⟨z,k1,k2,k3.fr (Aq (P:=λ_=>False) hY) (λq=>q),λq=>?_⟩;rw[gj s1 (λq=>e3 q.symm)]at q;have hv1:¬v1=i:=λe=>by have:=hcl s1 v1 w1.2 q;rw[e,hfi]at this;cases this
    rw[AK hv1];exact st1 z _ X Y (k4 q) k3.lt hY
   .rw[gj b (λq=>e2 q.symm)]at h;obtain⟨z,k1,k2,k3,k4⟩:=h2 h;rw[AK (λq=>e2 q.symm)];refine⟨z,k1,k2,k3.fr (Aq (P:=λ_=>False) hY) (λq=>q),λq=>?_⟩;rw[gj s2 (λq=>e4 q.symm)]at q;have hv2:¬v2=i:=λe=>by have:=hcl s2 v2 w2.2.1 q;rw[e,hfi]at this;cases this
    rw[AK hv2];exact st2 z _ X Y (k4 q) k3.lt hY
   .rw[gj a (λq=>e1 q.symm)]at q1;rw[gj b (λq=>e2 q.symm)]at q2;rw[AK (λq=>e1 q.symm),AK (λq=>e2 q.symm)];exact hD q1 q2
 .rintro f t X hf ⟨hb,hG,h1,h2,hD⟩;obtain⟨z,k1,k2,k3,k4⟩:=h1 (hf a la);obtain⟨y,j1,j2,j3,j4⟩:=h2 (hf b lb);exact hfin t X z y hb k1 j1 k2 j2 (λe=>hD (hf a la) (hf b lb) (by rw[k1,j1,e])) k3 j3 (k4 (hf s1 ls1)) (j4 (hf s2 ls2))
def m8 (_S _C:Nat) (x:Bk) (c:Ca) (a1 a2 a3:OA) (c1 c2 c3:Nat) (ua ub:OA) (d1 d2:Nat) (_W:World) (i:Nat) (v:Value) (X:World):Prop:=match i with
 |0=>v=(.agg (vB x a1 a2 a3 c1 c2 c3))
 |1=>∃(p:Pl) (m1 m2 m3:Nat),v=.agg (vB x p.a1 p.a2 p.a3 m1 m2 m3)/\CZ X x p/\Kn X x p m1 m2/\Du X x.tn p.a3 m3
 |2=>v=(.agg (vC c ua ub d1 d2))
 |3=>∃h1 h2,v=.agg (vC c (some ⟨h1,0,none⟩) (some ⟨h2,0,none⟩) c.bu.wn c.bu.rn)/\CG X 0 X.1.size c.bu (some ⟨h1,0,none⟩) (some ⟨h2,0,none⟩)
 |4=>∃(b1 b2 b3:OA) (f1 f2 f3:Nat),v=.tuple #[.agg (vB (BG x c) b1 b2 b3 f1 f2 f3),.agg (vS (Ec x c))]/\Bz X 0 X.1.size (BG x c) b1 b2 b3
 |5=>∃(b1 b2 b3:OA) (f1 f2 f3:Nat),v=.tuple #[.agg (vB (BG x c) b1 b2 b3 f1 f2 f3),.agg (vS (Ec x c))]/\Bz X 0 X.1.size (BG x c) b1 b2 b3
 |6=>∃(b1 b2 b3:OA) (f1 f2 f3:Nat),v=.agg (vB (BG x c) b1 b2 b3 f1 f2 f3)/\Bz X 0 X.1.size (BG x c) b1 b2 b3
 |7=>v=(.agg (vS (Ec x c)))
 |_=>True
theorem bP{P:Prop}(h:P:=by intro t X K z ez hBo hG hK;obtain⟨q,r⟩:=hBo.row;have k0:=r.cell 0 Za;have k1:=r.cell 1 Za;have k2:=r.cell 2 Za;have kf:=r.free;have kz:=r.lt;have e1:t 7=.agg (vS (Ec x c)):=hG;have h:=hK undef (((X.setCell ⟨z,0,none⟩ (.i (Ec x c).code)).setCell ⟨z,1,none⟩ (.i (Ec x c).ver)).setCell ⟨z,2,none⟩ (.bool (Ec x c).again)) (Oh r) (hBo.set3 (λ_ h=>by cases h) (λ_ h=>by cases h) (λ_ h=>by cases h)) (Rm (.i (Ec x c).code) (.i (Ec x c).ver) (.bool (Ec x c).again));refine Am rfl rfl ?_;clear hK hG;simp only[ez,e1];go_simp;simpa[AF,ez,e1]using h):P:=h
theorem ZM{P:Prop}(h:P:=by have e0:t 0=_:=hg 0 (AX rfl) Zb Zb Zb Zb (AD ⟨_,rfl,⟨1,.phase⟩,Ze,rfl,rfl⟩);refine Am rfl rfl ?_;have HK:=Ai hK;clear hK hg;go_simp;go_at_call 9;refine(Nc x a1 a2 a3 c1 c2 c3 X 0 S rD hf (hin.below hb Za)).mono ?_;rintro r Y ⟨g1,g2,g3,m1,m2,m3,rfl,hcd,hcd3,hxo,hbY⟩;obtain⟨p,hp1,hp2,hp3,hp4,hp5,hp6,_⟩:=QM hxo hcd hcd3;have h:=HK (.agg (vB x p.a1 p.a2 p.a3 m1 m2 m3)) Y ⟨p,m1,m2,m3,rfl,hp4,hp5,hp6⟩ hbY;rw[hp1,hp2,hp3]at h;simpa[AF,e0]using h):P:=h
theorem iT{P:Prop}(h:P:=by have e2:t 2=_:=hg 2 (AX rfl) Zb Zb Zb Zb (AD ⟨_,rfl,⟨3,.phase⟩,Ze,rfl,rfl⟩);refine Am rfl rfl ?_;have HK:=Ai hK;clear hK hg;go_simp;go_at_call 25;refine(Pf c ua ub d1 d2 X 0 S rD hcf.u (hun.below hb Za)).mono ?_;rintro r Y ⟨h1,h2,rfl,hA,_,_,_,_,hbY⟩;have h:=HK (.agg (vC c (some ⟨h1,0,none⟩) (some ⟨h2,0,none⟩) c.bu.wn c.bu.rn)) Y ⟨h1,h2,rfl,hA.isIn (λ_ _=>Ap _)⟩ hbY;simpa[AF,e2]using h):P:=h
theorem cS{P:Prop}(h:P:=by have l0:=(hb.cell (p:=⟨S,0,none⟩) hS).trans cS0;have l1:=(hb.cell (p:=⟨S,1,none⟩) hS).trans cS1;have l2:=(hb.cell (p:=⟨S,2,none⟩) hS).trans cS2;have l3:=(hb.cell (p:=⟨S,3,none⟩) hS).trans cS3;have l4:=(hb.cell (p:=⟨S,4,none⟩) hS).trans cS4;have zS:=Aa hS hb.size;exact sg):P:=h
theorem eV{P:Prop}(h:P:=by have l0:=(hb.cell (p:=⟨C,0,none⟩) hC).trans cC0;have l1:=(hb.cell (p:=⟨C,1,none⟩) hC).trans cC1;have l2:=(hb.cell (p:=⟨C,2,none⟩) hC).trans cC2;have l3:=(hb.cell (p:=⟨C,3,none⟩) hC).trans cC3;have zC:=Aa hC hb.size;exact sg):P:=h
theorem Sm{P:Prop}(h:P:=by refine Am rfl rfl ?_;clear hK hg;simp only[e5];go_simp;simpa[AF,e5]using h):P:=h
theorem U7{P:Prop}(h:P:=by obtain⟨b1,b2,b3,f1,f2,f3,e,o⟩:=h;exact⟨b1,b2,b3,f1,f2,f3,e,(o.box hf hno Bj).upTo hf.size⟩):P:=h
theorem ZO{P:Prop}(h:P:=by intro t X K hK;have h:=hK (X.alloc (.cells #[.i 0,.i 0,.l none 0 0,.l none 0 0,.l none 0 0] 35)) (WU X) FU;refine Am rfl rfl ?_;clear hK;go_simp;simpa[AF]using h):P:=h
theorem We{P:Prop}(h:P:=by intro t X K hK;have h:=hK (X.alloc (.cells #[.i 0,.i 0,.bool false] 66)) (VP X) FU;refine Am rfl rfl ?_;clear hK;go_simp;simpa[AF]using h):P:=h
theorem Sh{P:Prop}(h:P:=by obtain⟨b1,b2,b3,f1,f2,f3,e,o⟩:=h;exact⟨b1,b2,b3,f1,f2,f3,e,o.grow hb⟩):P:=h
theorem rE{p0 p1 p4 p5 p8 p9 Eb Es Eh El D8 Ej Ei EN EL EJ Ff Fe Fd Ev EK FA EU FD Fo Fz Fp Ft FC Fw Fy Fs Fu Fx Fq FE EY EP FQ GP GO Gj Gk Gm Ir Iq Hu Hi Hh Hg Iu Iv Iw Ic Ib H9 HJ IH ID IF IE IG IC I9 Ja Jt Js Jb Je Jc IX IV IW Jz JA Jy JZ J0 JX JY J3 J5 J4 J6 Ke Ki Ma Md FX FW EZ E1 EC EA EB E0 E4 Hz Hx H8 Ia Hb G9 Ha G7 G5 G6 Ie H7 Hy:Value}{mk:(Nat->Value)->Array Value}(t0:Nat->Value) (S C:Nat) (x:Bk) (c:Ca) (a1 a2 a3:OA) (c1 c2 c3:Nat) (ua ub:OA) (d1 d2:Nat) (W:World) (hS:S<W.1.size) (cS0:W.cell? ⟨S,0,none⟩=some (.i x.now)) (cS1:W.cell? ⟨S,1,none⟩=some (.i x.floor)) (cS2:W.cell? ⟨S,2,none⟩=some (.l a1 x.on c1)) (cS3:W.cell? ⟨S,3,none⟩=some (.l a2 x.hn c2)) (cS4:W.cell? ⟨S,4,none⟩=some (.l a3 x.tn c3)) (hC:C<W.1.size) (cC0:W.cell? ⟨C,0,none⟩=some (.s c.client)) (cC1:W.cell? ⟨C,1,none⟩=some (.i c.num)) (cC2:W.cell? ⟨C,2,none⟩=some (.l ua c.bu.wn d1)) (cC3:W.cell? ⟨C,3,none⟩=some (.l ub c.bu.rn d2)) (hSC:S<=C) (hin:Bz W 0 S x a1 a2 a3) (hun:CG W 0 S c.bu ua ub) (hf:Cx x) (hcf:EE c) (hsz:Hn x<=1048576) (hmk:mk=λt=>#[p0,p1,.p S 0,.p C 0,p4,p5,t 8,t 9,p8,p9,Eb,Es,Eh,El,D8,Ej,Ei,EN,EL,EJ,Ff,Fe,Fd,Ev,EK,FA,EU,t 5,t 0,t 1,t 2,t 3,t 4,t 6,t 7,FD,Fo,Fz,Fp,Ft,FC,Fw,Fy,Fs,Fu,Fx,Fq,FE,EY,EP,FQ,GP,GO,Gj,Gk,Gm,Ir,Iq,Hu,Hi,Hh,Hg,Iu,Iv,Iw,Ic,Ib,H9,HJ,IH,ID,IF,IE,IG,IC,I9,Ja,Jt,Js,Jb,Je,Jc,IX,IV,IW,Jz,JA,Jy,JZ,J0,JX,JY,J3,J5,J4,J6,Ke,Ki,Ma,Md,FX,FW,EZ,E1,EC,EA,EB,E0,E4,Hz,Hx,H8,Ia,Hb,G9,Ha,G7,G5,G6,Ie,H7,Hy]) (Q:Exit->Act->World->Prop) (hQ:∀(t:Nat->Value) X z y,Below W.1.size W X->t 8=.p z 0->t 9=.p y 0->W.1.size<=z->W.1.size<=y->¬z=y->Bo X z 5->Bo X y 3->(∃(b1 b2 b3:OA) (f1 f2 f3:Nat),t 6=.agg (vB (BG x c) b1 b2 b3 f1 f2 f3)/\AH X z 5 (Bg (GB (BG x c) b1 b2 b3 f1 f2 f3))/\Bz X 0 X.1.size (BG x c) b1 b2 b3)->(AH X y 3 (Bg (TP (Ec x c))))->Q .normal ⟨mk t,[]⟩ X):Code.wp prog (rg Tryz.f5 8) Q ⟨mk t0,[]⟩ W:=by
 refine TG Zc 12 8 9 10 11 5 3 6 7 (λi=>decide (4<=i)) mk t0 (m8 S C x c a1 a2 a3 c1 c2 c3 ua ub d1 d2 W) (λz v X=>∃(b1 b2 b3:OA) (f1 f2 f3:Nat),v=.agg (vB (BG x c) b1 b2 b3 f1 f2 f3)/\AH X z 5 (Bg (GB (BG x c) b1 b2 b3 f1 f2 f3))/\Bz X 0 X.1.size (BG x c) b1 b2 b3) (λz v X=>AH X z 3 (Bg (TP (Ec x c)))) Zc Zb Zc ⟨(AX rfl),(AX rfl)⟩ ⟨(AX rfl),(AX rfl),⟨_,rfl,⟨10,.chain⟩,Ze,rfl,rfl⟩⟩ rfl ?_ ?_ ?_ ?_ ?_ ?_ rfl ?_ ?_ ?_ ?_ ?_ ?_;all_goals subst hmk
 .intro i v X Y hi7 h hb;rcases(show i=0\/i=1\/i=2\/i=3\/i=4\/i=5\/i=6\/i=7\/i=8\/i=9\/i=10\/i=11 by omega)with rfl|rfl|rfl|rfl|rfl|rfl|rfl|rfl|rfl|rfl|rfl|rfl;.exact h
  .obtain⟨p,m1,m2,m3,e,o1,o2,o3⟩:=h;exact⟨p,m1,m2,m3,e,o1.grow hb,o2.grow hb,o3.grow hb.size⟩
  .exact h
  .obtain⟨h1,h2,e,o⟩:=h;exact⟨h1,h2,e,o.grow hb⟩
  .exact Sh
  .exact Sh
  .exact Sh
  .exact h
  .exact h
  .exact h
  .exact h
  .exact h
 .intro i v X Y z hi7 hkp h hno hf;rcases(show i=0\/i=1\/i=2\/i=3\/i=4\/i=5\/i=6\/i=7\/i=8\/i=9\/i=10\/i=11 by omega)with rfl|rfl|rfl|rfl|rfl|rfl|rfl|rfl|rfl|rfl|rfl|rfl;.exact h
  .exact absurd hkp Zb
  .exact h
  .exact absurd hkp Zb
  .exact U7
  .exact U7
  .exact U7
  .exact h
  .exact h
  .exact h
  .exact h
  .exact h
 .intro z v X Y h hz hb;obtain⟨b1,b2,b3,f1,f2,f3,e,r,o⟩:=h;exact⟨b1,b2,b3,f1,f2,f3,e,r.below hb hz,o.grow hb⟩
 .intro z v X Y y h hz hy hno hf;obtain⟨b1,b2,b3,f1,f2,f3,e,r,o⟩:=h;exact⟨b1,b2,b3,f1,f2,f3,e,r.fr hf hy,(o.box hf hno Bj).upTo hf.size⟩
 .intro z v X Y h hz hb;exact h.below hb hz
 .intro z v X Y y h hz hy hno hf;exact h.fr hf hy
 .intro i hi7 ka kb ks1 ks2 t X K hb hg hK;rcases(show i=0\/i=1\/i=2\/i=3\/i=4\/i=5\/i=6\/i=7 by omega)with rfl|rfl|rfl|rfl|rfl|rfl|rfl|rfl;.exact cS
  .exact ZM
  .exact eV
  .exact iT
  .obtain⟨p,m1,m2,m3,e1,o1,o2,o3⟩:∃(p:Pl) (m1 m2 m3:Nat),t 1=.agg (vB x p.a1 p.a2 p.a3 m1 m2 m3)/\CZ X x p/\Kn X x p m1 m2/\Du X x.tn p.a3 m3:=hg 1 (AX rfl) Zb Zb Zb Zb (AD ⟨_,rfl,⟨4,.phase⟩,Ze,rfl,rfl⟩);obtain⟨h1,h2,e3,oU⟩:∃h1 h2,t 3=.agg (vC c (some ⟨h1,0,none⟩) (some ⟨h2,0,none⟩) c.bu.wn c.bu.rn)/\CG X 0 X.1.size c.bu (some ⟨h1,0,none⟩) (some ⟨h2,0,none⟩):=hg 3 (AX rfl) Zb Zb Zb Zb (AD ⟨_,rfl,⟨4,.phase⟩,Ze,rfl,rfl⟩);refine Am rfl rfl ?_;have HK:=Ai hK;clear hK hg;simp only[e1,e3];go_simp;go_at_call 24;refine(TB x c p.a1 p.a2 p.a3 m1 m2 m3 (some ⟨h1,0,none⟩) (some ⟨h2,0,none⟩) c.bu.wn c.bu.rn X hf hcf (o1.isIn (λ_ _=>Ap _)) oU hsz o3).mono ?_;rintro r Y ⟨hbY,b1,b2,b3,f1,f2,f3,rfl,hat⟩;have h:=HK (.tuple #[.agg (vB (BG x c) b1 b2 b3 f1 f2 f3),.agg (vS (Ec x c))]) Y ⟨b1,b2,b3,f1,f2,f3,rfl,hat⟩ hbY;simpa[AF,e1,e3]using h
  .obtain⟨b1,b2,b3,f1,f2,f3,e4,o⟩:∃(b1 b2 b3:OA) (f1 f2 f3:Nat),t 4=.tuple #[.agg (vB (BG x c) b1 b2 b3 f1 f2 f3),.agg (vS (Ec x c))]/\Bz X 0 X.1.size (BG x c) b1 b2 b3:=hg 4 (AX rfl) Zb Zb Zb Zb (Ax rfl);have h:=hK (.tuple #[.agg (vB (BG x c) b1 b2 b3 f1 f2 f3),.agg (vS (Ec x c))]) X ⟨b1,b2,b3,f1,f2,f3,rfl,o⟩ BF;refine Am rfl rfl ?_;clear hK hg;simp only[e4];go_simp;simpa[AF,e4]using h
  .obtain⟨b1,b2,b3,f1,f2,f3,e5,o⟩:∃(b1 b2 b3:OA) (f1 f2 f3:Nat),t 5=.tuple #[.agg (vB (BG x c) b1 b2 b3 f1 f2 f3),.agg (vS (Ec x c))]/\Bz X 0 X.1.size (BG x c) b1 b2 b3:=hg 5 (AX rfl) Zb Zb Zb Zb (Ax rfl);have h:=hK (.agg (vB (BG x c) b1 b2 b3 f1 f2 f3)) X ⟨b1,b2,b3,f1,f2,f3,rfl,o⟩ BF;exact Sm
  .obtain⟨b1,b2,b3,f1,f2,f3,e5,o⟩:∃(b1 b2 b3:OA) (f1 f2 f3:Nat),t 5=.tuple #[.agg (vB (BG x c) b1 b2 b3 f1 f2 f3),.agg (vS (Ec x c))]/\Bz X 0 X.1.size (BG x c) b1 b2 b3:=hg 5 (AX rfl) Zb Zb Zb Zb (Ax rfl);have h:=hK _ X rfl BF;exact Sm
 .exact ZO
 .exact We
 .intro t X K z ez hBo hG hK;obtain⟨b1,b2,b3,f1,f2,f3,e1,o⟩:∃(b1 b2 b3:OA) (f1 f2 f3:Nat),t 6=.agg (vB (BG x c) b1 b2 b3 f1 f2 f3)/\Bz X 0 X.1.size (BG x c) b1 b2 b3:=hG;obtain⟨q,r⟩:=hBo.row;have k0:=r.cell 0 Za;have k1:=r.cell 1 Za;have k2:=r.cell 2 Za;have k3:=r.cell 3 Za;have k4:=r.cell 4 Za;have kf:=r.free;have kz:=r.lt;have h:=hK undef (((((X.setCell ⟨z,0,none⟩ (.i (BG x c).now)).setCell ⟨z,1,none⟩ (.i (BG x c).floor)).setCell ⟨z,2,none⟩ (.l b1 (BG x c).on f1)).setCell ⟨z,3,none⟩ (.l b2 (BG x c).hn f2)).setCell ⟨z,4,none⟩ (.l b3 (BG x c).tn f3)) ⟨b1,b2,b3,f1,f2,f3,e1,MI r,((o.box (Nz (.i (BG x c).now) (.i (BG x c).floor) (.l b1 (BG x c).on f1) (.l b2 (BG x c).hn f2) (.l b3 (BG x c).tn f3)) hBo.no Bj).upTo (Nz (.i (BG x c).now) (.i (BG x c).floor) (.l b1 (BG x c).on f1) (.l b2 (BG x c).hn f2) (.l b3 (BG x c).tn f3)).size)⟩ (hBo.set5 (λ_ h=>by cases h) (λ_ h=>by cases h) (λ_ h=>by cases h) (λ_ h=>by cases h) (λ_ h=>by cases h)) (Nz (.i (BG x c).now) (.i (BG x c).floor) (.l b1 (BG x c).on f1) (.l b2 (BG x c).hn f2) (.l b3 (BG x c).tn f3));have H:=Ai h;refine Am rfl rfl ?_;clear hK h o;simp only[ez,e1];go_simp;simpa[AF,ez,e1]using H.out
 .exact bP
 .exact hQ
def fP (_S _C:Nat) (x:Bk) (c:Ca) (a1 a2 a3:OA) (c1 c2 c3:Nat) (ua ub:OA) (d1 d2:Nat) (W:World) (i:Nat) (v:Value) (X:World):Prop:=match i with
 |0=>v=(.agg (vB x a1 a2 a3 c1 c2 c3))
 |1=>∃(p:Pl) (m1 m2 m3:Nat),v=.agg (vB x p.a1 p.a2 p.a3 m1 m2 m3)/\CZ X x p/\Kn X x p m1 m2/\Du X x.tn p.a3 m3
 |2=>v=(.agg (vC c ua ub d1 d2))
 |3=>∃h1 h2,v=.agg (vC c (some ⟨h1,0,none⟩) (some ⟨h2,0,none⟩) c.bu.wn c.bu.rn)/\CG X 0 X.1.size c.bu (some ⟨h1,0,none⟩) (some ⟨h2,0,none⟩)
 |4=>∃(g:Pl) (f1 f2 f3:Nat),v=.tuple #[.agg (vB (BG x c) g.a1 g.a2 g.a3 f1 f2 f3),.agg (vS (Ec x c))]/\CZ X (BG x c) g/\(∀q,DS g (BG x c) q->W.1.size<=q)
 |5=>∃(g:Pl) (f1 f2 f3:Nat),v=.tuple #[.agg (vB (BG x c) g.a1 g.a2 g.a3 f1 f2 f3),.agg (vS (Ec x c))]/\CZ X (BG x c) g/\(∀q,DS g (BG x c) q->W.1.size<=q)
 |6=>∃(g:Pl) (f1 f2 f3:Nat),v=.agg (vB (BG x c) g.a1 g.a2 g.a3 f1 f2 f3)/\CZ X (BG x c) g/\(∀q,DS g (BG x c) q->W.1.size<=q)
 |7=>v=(.agg (vS (Ec x c)))
 |_=>True
theorem UJ{P:Prop}(h:P:=by obtain⟨g,f1,f2,f3,e,o⟩:=h;exact⟨g,f1,f2,f3,e,o.1.fr hf (λk hk q=>by obtain⟨j,s,hs⟩:=o.1.str hk;exact JF hno hs q),o.2⟩):P:=h
theorem kG{p0 p1 p4 p5 p6 p7 p8 p9 Eb Es Eh El D8 EN EL EJ Ff Fe Fd Ev EK FA EU E9 Ez EV Fa Fb E8 Fc FM FD Fo Fz Fp Ft FC Fw Fy Fs Fu Fx Fq FE EY EP FQ GP GO Gj Gk Gm Ir Iq Hu Hi Hh Hg Iu Iv Iw Ic Ib H9 HJ IH ID IF IE IG IC I9 Ja Jt Js Jb Je Jc IX IV IW Jz JA Jy JZ J0 JX JY J3 J5 J4 J6 EC EA EB E0 E4 Hz Hx H8 Ia Hb G9 Ha G7 G5 G6 Ie H7 Hy:Value}{mk:(Nat->Value)->Array Value}(t0:Nat->Value) (S C:Nat) (x:Bk) (c:Ca) (a1 a2 a3:OA) (c1 c2 c3:Nat) (ua ub:OA) (d1 d2:Nat) (W:World) (hS:S<W.1.size) (cS0:W.cell? ⟨S,0,none⟩=some (.i x.now)) (cS1:W.cell? ⟨S,1,none⟩=some (.i x.floor)) (cS2:W.cell? ⟨S,2,none⟩=some (.l a1 x.on c1)) (cS3:W.cell? ⟨S,3,none⟩=some (.l a2 x.hn c2)) (cS4:W.cell? ⟨S,4,none⟩=some (.l a3 x.tn c3)) (hC:C<W.1.size) (cC0:W.cell? ⟨C,0,none⟩=some (.s c.client)) (cC1:W.cell? ⟨C,1,none⟩=some (.i c.num)) (cC2:W.cell? ⟨C,2,none⟩=some (.l ua c.bu.wn d1)) (cC3:W.cell? ⟨C,3,none⟩=some (.l ub c.bu.rn d2)) (hSC:S<=C) (hin:Bz W 0 S x a1 a2 a3) (hun:CG W 0 S c.bu ua ub) (hf:Cx x) (hcf:EE c) (hsz:Hn x<=1048576) (ht:L3 W) (hgl:W.cell? ⟨0,0,none⟩=some (.iface 233 (.agg #[.p 5 86]))) (hmk:mk=λt=>#[p0,p1,.p S 0,.p C 0,p4,p5,p6,p7,p8,p9,Eb,Es,Eh,El,D8,t 8,t 9,EN,EL,EJ,Ff,Fe,Fd,Ev,EK,FA,EU,E9,Ez,EV,Fa,Fb,E8,Fc,FM,FD,Fo,Fz,Fp,Ft,FC,Fw,Fy,Fs,Fu,Fx,Fq,FE,EY,EP,FQ,GP,GO,Gj,Gk,Gm,Ir,Iq,Hu,Hi,Hh,Hg,Iu,Iv,Iw,Ic,Ib,H9,HJ,IH,ID,IF,IE,IG,IC,I9,Ja,Jt,Js,Jb,Je,Jc,IX,IV,IW,Jz,JA,Jy,JZ,J0,JX,JY,J3,J5,J4,J6,t 5,t 0,t 1,t 2,t 3,t 4,t 6,t 7,EC,EA,EB,E0,E4,Hz,Hx,H8,Ia,Hb,G9,Ha,G7,G5,G6,Ie,H7,Hy]) (Q:Exit->Act->World->Prop) (hQ:∀(t:Nat->Value) X z y,Below W.1.size W X->t 8=.p z 0->t 9=.p y 0->W.1.size<=z->W.1.size<=y->¬z=y->Bo X z 5->Bo X y 3->(∃(g:Pl) (f1 f2 f3:Nat),t 6=.agg (vB (BG x c) g.a1 g.a2 g.a3 f1 f2 f3)/\AH X z 5 (Bg (GB (BG x c) g.a1 g.a2 g.a3 f1 f2 f3))/\CZ X (BG x c) g/\(∀q,DS g (BG x c) q->W.1.size<=q))->(AH X y 3 (Bg (TP (Ec x c))))->Q .normal ⟨mk t,[]⟩ X):Code.wp prog (rg Tryz.f5 31) Q ⟨mk t0,[]⟩ W:=by
 refine TG Zc 12 8 9 10 11 5 3 6 7 (λi=>decide (4<=i)) mk t0 (fP S C x c a1 a2 a3 c1 c2 c3 ua ub d1 d2 W) (λz v X=>∃(g:Pl) (f1 f2 f3:Nat),v=.agg (vB (BG x c) g.a1 g.a2 g.a3 f1 f2 f3)/\AH X z 5 (Bg (GB (BG x c) g.a1 g.a2 g.a3 f1 f2 f3))/\CZ X (BG x c) g/\(∀q,DS g (BG x c) q->W.1.size<=q)) (λz v X=>AH X z 3 (Bg (TP (Ec x c)))) Zc Zb Zc ⟨(AX rfl),(AX rfl)⟩ ⟨(AX rfl),(AX rfl),⟨_,rfl,⟨10,.chain⟩,Ze,rfl,rfl⟩⟩ rfl ?_ ?_ ?_ ?_ ?_ ?_ rfl ?_ ?_ ?_ ?_ ?_ ?_;all_goals subst hmk
 .intro i v X Y hi7 h hb;rcases(show i=0\/i=1\/i=2\/i=3\/i=4\/i=5\/i=6\/i=7\/i=8\/i=9\/i=10\/i=11 by omega)with rfl|rfl|rfl|rfl|rfl|rfl|rfl|rfl|rfl|rfl|rfl|rfl;.exact h
  .obtain⟨p,m1,m2,m3,e,o1,o2,o3⟩:=h;exact⟨p,m1,m2,m3,e,o1.grow hb,o2.grow hb,o3.grow hb.size⟩
  .exact h
  .obtain⟨h1,h2,e,o⟩:=h;exact⟨h1,h2,e,o.grow hb⟩
  .obtain⟨g,f1,f2,f3,e,o⟩:=h;exact⟨g,f1,f2,f3,e,o.1.grow hb,o.2⟩
  .obtain⟨g,f1,f2,f3,e,o⟩:=h;exact⟨g,f1,f2,f3,e,o.1.grow hb,o.2⟩
  .obtain⟨g,f1,f2,f3,e,o⟩:=h;exact⟨g,f1,f2,f3,e,o.1.grow hb,o.2⟩
  .exact h
  .exact h
  .exact h
  .exact h
  .exact h
 .intro i v X Y z hi7 hkp h hno hf;rcases(show i=0\/i=1\/i=2\/i=3\/i=4\/i=5\/i=6\/i=7\/i=8\/i=9\/i=10\/i=11 by omega)with rfl|rfl|rfl|rfl|rfl|rfl|rfl|rfl|rfl|rfl|rfl|rfl;.exact h
  .exact absurd hkp Zb
  .exact h
  .exact absurd hkp Zb
  .exact UJ
  .exact UJ
  .exact UJ
  .exact h
  .exact h
  .exact h
  .exact h
  .exact h
 .intro z v X Y h hz hb;obtain⟨g,f1,f2,f3,e,r,o⟩:=h;exact⟨g,f1,f2,f3,e,r.below hb hz,o.1.grow hb,o.2⟩
 .intro z v X Y y h hz hy hno hf;obtain⟨g,f1,f2,f3,e,r,o⟩:=h;exact⟨g,f1,f2,f3,e,r.fr hf hy,o.1.fr hf (λk hk q=>by obtain⟨j,s,hs⟩:=o.1.str hk;exact JF hno hs q),o.2⟩
 .intro z v X Y h hz hb;exact h.below hb hz
 .intro z v X Y y h hz hy hno hf;exact h.fr hf hy
 .intro i hi7 ka kb ks1 ks2 t X K hb hg hK;rcases(show i=0\/i=1\/i=2\/i=3\/i=4\/i=5\/i=6\/i=7 by omega)with rfl|rfl|rfl|rfl|rfl|rfl|rfl|rfl;.exact cS
  .exact ZM
  .exact eV
  .exact iT
  .obtain⟨p,m1,m2,m3,e1,o1,o2,o3⟩:∃(p:Pl) (m1 m2 m3:Nat),t 1=.agg (vB x p.a1 p.a2 p.a3 m1 m2 m3)/\CZ X x p/\Kn X x p m1 m2/\Du X x.tn p.a3 m3:=hg 1 (AX rfl) Zb Zb Zb Zb (AD ⟨_,rfl,⟨4,.phase⟩,Ze,rfl,rfl⟩);obtain⟨h1,h2,e3,oU⟩:∃h1 h2,t 3=.agg (vC c (some ⟨h1,0,none⟩) (some ⟨h2,0,none⟩) c.bu.wn c.bu.rn)/\CG X 0 X.1.size c.bu (some ⟨h1,0,none⟩) (some ⟨h2,0,none⟩):=hg 3 (AX rfl) Zb Zb Zb Zb (AD ⟨_,rfl,⟨4,.phase⟩,Ze,rfl,rfl⟩);refine Am rfl rfl ?_;have HK:=Ai hK;clear hK hg;simp only[e1,e3];go_simp;go_at_call 26;refine(N5 x c p.a1 p.a2 p.a3 m1 m2 m3 (some ⟨h1,0,none⟩) (some ⟨h2,0,none⟩) c.bu.wn c.bu.rn X hf hcf (o1.isIn (λ_ _=>Ap _)) oU hsz (ht.below hb) p o1 o2 o3 ⟨rfl,rfl,rfl⟩ ((hb.cell (p:=⟨0,0,none⟩) (by show 0<_;omega)).trans hgl)).mono ?_;rintro r Y ⟨g,f1,f2,f3,rfl,hat,hq,hbY⟩;have h:=HK (.tuple #[.agg (vB (BG x c) g.a1 g.a2 g.a3 f1 f2 f3),.agg (vS (Ec x c))]) Y ⟨g,f1,f2,f3,rfl,hat,λq k=>AA hb.size (hq q k)⟩ hbY;simpa[AF,e1,e3]using h
  .obtain⟨g,f1,f2,f3,e4,o⟩:∃(g:Pl) (f1 f2 f3:Nat),t 4=.tuple #[.agg (vB (BG x c) g.a1 g.a2 g.a3 f1 f2 f3),.agg (vS (Ec x c))]/\CZ X (BG x c) g/\(∀q,DS g (BG x c) q->W.1.size<=q):=hg 4 (AX rfl) Zb Zb Zb Zb (Ax rfl);have h:=hK (.tuple #[.agg (vB (BG x c) g.a1 g.a2 g.a3 f1 f2 f3),.agg (vS (Ec x c))]) X ⟨g,f1,f2,f3,rfl,o⟩ BF;refine Am rfl rfl ?_;clear hK hg;simp only[e4];go_simp;simpa[AF,e4]using h
  .obtain⟨g,f1,f2,f3,e5,o⟩:∃(g:Pl) (f1 f2 f3:Nat),t 5=.tuple #[.agg (vB (BG x c) g.a1 g.a2 g.a3 f1 f2 f3),.agg (vS (Ec x c))]/\CZ X (BG x c) g/\(∀q,DS g (BG x c) q->W.1.size<=q):=hg 5 (AX rfl) Zb Zb Zb Zb (Ax rfl);have h:=hK (.agg (vB (BG x c) g.a1 g.a2 g.a3 f1 f2 f3)) X ⟨g,f1,f2,f3,rfl,o⟩ BF;exact Sm
  .obtain⟨g,f1,f2,f3,e5,o⟩:∃(g:Pl) (f1 f2 f3:Nat),t 5=.tuple #[.agg (vB (BG x c) g.a1 g.a2 g.a3 f1 f2 f3),.agg (vS (Ec x c))]/\CZ X (BG x c) g/\(∀q,DS g (BG x c) q->W.1.size<=q):=hg 5 (AX rfl) Zb Zb Zb Zb (Ax rfl);have h:=hK _ X rfl BF;exact Sm
 .exact ZO
 .exact We
 .intro t X K z ez hBo hG hK;obtain⟨g,f1,f2,f3,e1,o⟩:∃(g:Pl) (f1 f2 f3:Nat),t 6=.agg (vB (BG x c) g.a1 g.a2 g.a3 f1 f2 f3)/\CZ X (BG x c) g/\(∀q,DS g (BG x c) q->W.1.size<=q):=hG;obtain⟨q,r⟩:=hBo.row;have k0:=r.cell 0 Za;have k1:=r.cell 1 Za;have k2:=r.cell 2 Za;have k3:=r.cell 3 Za;have k4:=r.cell 4 Za;have kf:=r.free;have kz:=r.lt;have h:=hK undef (((((X.setCell ⟨z,0,none⟩ (.i (BG x c).now)).setCell ⟨z,1,none⟩ (.i (BG x c).floor)).setCell ⟨z,2,none⟩ (.l g.a1 (BG x c).on f1)).setCell ⟨z,3,none⟩ (.l g.a2 (BG x c).hn f2)).setCell ⟨z,4,none⟩ (.l g.a3 (BG x c).tn f3)) ⟨g,f1,f2,f3,e1,MI r,(⟨o.1.fr (Nz (.i (BG x c).now) (.i (BG x c).floor) (.l g.a1 (BG x c).on f1) (.l g.a2 (BG x c).hn f2) (.l g.a3 (BG x c).tn f3)) (λk hk q=>by obtain⟨j,s,hs⟩:=o.1.str hk;exact JF hBo.no hs q),o.2⟩:_/\_)⟩ (hBo.set5 (λ_ h=>by cases h) (λ_ h=>by cases h) (λ_ h=>by cases h) (λ_ h=>by cases h) (λ_ h=>by cases h)) (Nz (.i (BG x c).now) (.i (BG x c).floor) (.l g.a1 (BG x c).on f1) (.l g.a2 (BG x c).hn f2) (.l g.a3 (BG x c).tn f3));have H:=Ai h;refine Am rfl rfl ?_;clear hK h o;simp only[ez,e1];go_simp;simpa[AF,ez,e1]using H.out
 .exact bP
 .exact hQ
def Z8 (_S _N:Nat) (x:Bk) (a1 a2 a3:OA) (c1 c2 c3:Nat) (p:Pl) (m1 m2 m3:Nat) (_W:World) (i:Nat) (v:Value) (X:World):Prop:=match i with
 |0=>v=(.agg (vB x p.a1 p.a2 p.a3 m1 m2 m3))
 |1=>v=(.agg (vB x a1 a2 a3 c1 c2 c3))
 |2=>∃g1 g2 g3 f1 f2 f3,v=.agg (vB x (some ⟨g1,0,none⟩) (some ⟨g2,0,none⟩) (some ⟨g3,0,none⟩) f1 f2 f3)/\Bz X 0 X.1.size x (some ⟨g1,0,none⟩) (some ⟨g2,0,none⟩) (some ⟨g3,0,none⟩)
 |3=>v=.bool true
 |4=>v=.bool false
 |_=>True
def cU (_S _N:Nat) (_x:Bk) (_a1 _a2 _a3:OA) (_c1 _c2 _c3:Nat) (_p:Pl) (_m1 _m2 _m3:Nat) (_W:World) (i _q:Nat):Prop:=match i with
 |_=>False
theorem Rk{P:Prop}(h:P:=by have h:=hK _ X rfl hEX (AP.refl _ _);refine Am rfl rfl ?_;clear hK hg;go_simp;simpa[AF]using h):P:=h
theorem kH{p0 p1 p3 p4 p5 p6 p7 p9 Eb Es Eh El D8 Ej Ei EN EL EJ Ff Fe Fd Ev EK FA EU E9 Ez EV Fa Fb E8 Fc FM FD Fo Fz Fp Ft FC Fw Fy Fs Fu Fx Fq FE EY EP FQ GP GO Gj Gk Hh Hg Iu Iv Iw Ic Ib H9 HJ IH ID IF IE IG IC I9 Ja Jt Js Jb Je Jc IX IV IW Jz JA Jy JZ J0 JX JY J3 J5 J4 J6 Ke Ki Ma Md FX FW EZ E1 EC EA EB E0 E4 Hz Hx H8 Ia Hb G9 Ha G7 G5 G6 Ie H7 Hy:Value}{mk:(Nat->Value)->Array Value}(t0:Nat->Value) (S N:Nat) (x:Bk) (a1 a2 a3:OA) (c1 c2 c3:Nat) (p:Pl) (m1 m2 m3:Nat) (W:World) (hS:S<W.1.size) (cS0:W.cell? ⟨S,0,none⟩=some (.i x.now)) (cS1:W.cell? ⟨S,1,none⟩=some (.i x.floor)) (cS2:W.cell? ⟨S,2,none⟩=some (.l a1 x.on c1)) (cS3:W.cell? ⟨S,3,none⟩=some (.l a2 x.hn c2)) (cS4:W.cell? ⟨S,4,none⟩=some (.l a3 x.tn c3)) (hN:N<W.1.size) (cN0:W.cell? ⟨N,0,none⟩=some (.i x.now)) (cN1:W.cell? ⟨N,1,none⟩=some (.i x.floor)) (cN2:W.cell? ⟨N,2,none⟩=some (.l p.a1 x.on m1)) (cN3:W.cell? ⟨N,3,none⟩=some (.l p.a2 x.hn m2)) (cN4:W.cell? ⟨N,4,none⟩=some (.l p.a3 x.tn m3)) (hin:Bz W 0 S x a1 a2 a3) (hf:Cx x) (hat:CZ W x p) (hmk:mk=λt=>#[p0,p1,.p S 0,p3,p4,p5,p6,p7,.p N 0,p9,Eb,Es,Eh,El,D8,Ej,Ei,EN,EL,EJ,Ff,Fe,Fd,Ev,EK,FA,EU,E9,Ez,EV,Fa,Fb,E8,Fc,FM,FD,Fo,Fz,Fp,Ft,FC,Fw,Fy,Fs,Fu,Fx,Fq,FE,EY,EP,FQ,GP,GO,Gj,Gk,t 0,t 1,t 2,t 3,t 4,Hh,Hg,Iu,Iv,Iw,Ic,Ib,H9,HJ,IH,ID,IF,IE,IG,IC,I9,Ja,Jt,Js,Jb,Je,Jc,IX,IV,IW,Jz,JA,Jy,JZ,J0,JX,JY,J3,J5,J4,J6,Ke,Ki,Ma,Md,FX,FW,EZ,E1,EC,EA,EB,E0,E4,Hz,Hx,H8,Ia,Hb,G9,Ha,G7,G5,G6,Ie,H7,Hy]) (Q:Exit->Act->World->Prop) (hQ:∀(t:Nat->Value) X,AP (λ_q=>False) W X->((t 4)=.bool false)->Q .normal ⟨mk t,[]⟩ X):Code.wp prog (rg Tryz.f5 14) Q ⟨mk t0,[]⟩ W:=by
 refine GM Zc 5 mk t0 (λX=>True) (Z8 S N x a1 a2 a3 c1 c2 c3 p m1 m2 m3 W) (cU S N x a1 a2 a3 c1 c2 c3 p m1 m2 m3 W) (λq=>False) Zc Zc rfl trivial ?_ ?_ ?_ ?_;all_goals subst hmk
 .exact λi q h=>h
 .intro i j v X Y hi7 hj7 hij hEX h hf';rcases(show j=0\/j=1\/j=2\/j=3\/j=4 by omega)with rfl|rfl|rfl|rfl|rfl;.exact h
  .exact h
  .obtain⟨g1,g2,g3,f1,f2,f3,e,o⟩:=h;rcases(show i=0\/i=1\/i=2\/i=3\/i=4 by omega)with rfl|rfl|rfl|rfl|rfl<;>first|exact absurd rfl hij|exact⟨g1,g2,g3,f1,f2,f3,e,o.grow (hf'.below (λ_ _ q=>False.elim q) Bj)⟩
  .exact h
  .exact h
 .intro i hi7 t X K hb hEX hg hK;rcases(show i=0\/i=1\/i=2\/i=3\/i=4 by omega)with rfl|rfl|rfl|rfl|rfl;.have l0:=(hb.cell (p:=⟨N,0,none⟩) hN (λe=>by exact e)).trans cN0;have l1:=(hb.cell (p:=⟨N,1,none⟩) hN (λe=>by exact e)).trans cN1;have l2:=(hb.cell (p:=⟨N,2,none⟩) hN (λe=>by exact e)).trans cN2;have l3:=(hb.cell (p:=⟨N,3,none⟩) hN (λe=>by exact e)).trans cN3;have l4:=(hb.cell (p:=⟨N,4,none⟩) hN (λe=>by exact e)).trans cN4;have zN:=Aa hN hb.size;exact Rk
  .have l0:=(hb.cell (p:=⟨S,0,none⟩) hS (λe=>by exact e)).trans cS0;have l1:=(hb.cell (p:=⟨S,1,none⟩) hS (λe=>by exact e)).trans cS1;have l2:=(hb.cell (p:=⟨S,2,none⟩) hS (λe=>by exact e)).trans cS2;have l3:=(hb.cell (p:=⟨S,3,none⟩) hS (λe=>by exact e)).trans cS3;have l4:=(hb.cell (p:=⟨S,4,none⟩) hS (λe=>by exact e)).trans cS4;have zS:=Aa hS hb.size;exact Rk
  .have e1:t 1=_:=hg 1 (AX rfl);refine Am rfl rfl ?_;have HK:=Ai hK;clear hK hg;go_simp;go_at_call 9;refine(Nc x a1 a2 a3 c1 c2 c3 X 0 S rD hf (hin.below hb.belowAll Za)).mono ?_;rintro r Y ⟨g1,g2,g3,f1,f2,f3,rfl,_,_,hxo,hbY⟩;have h:=HK (.agg (vB x (some ⟨g1,0,none⟩) (some ⟨g2,0,none⟩) (some ⟨g3,0,none⟩) f1 f2 f3)) Y ⟨g1,g2,g3,f1,f2,f3,rfl,hxo.isIn.dn Ny⟩ trivial (Aq hbY);simpa[AF,e1]using h
  .have e0:t 0=_:=hg 0 (AX rfl);obtain⟨g1,g2,g3,f1,f2,f3,e2,o⟩:∃g1 g2 g3 f1 f2 f3,t 2=.agg (vB x (some ⟨g1,0,none⟩) (some ⟨g2,0,none⟩) (some ⟨g3,0,none⟩) f1 f2 f3)/\Bz X 0 X.1.size x (some ⟨g1,0,none⟩) (some ⟨g2,0,none⟩) (some ⟨g3,0,none⟩):=hg 2 (AX rfl);refine Am rfl rfl ?_;have HK:=Ai hK;clear hK hg;simp only[e0,e2];go_simp;go_at_call 13;refine(Mz x _ _ _ _ _ _ m1 m2 m3 f1 f2 f3 X 0 X.1.size 0 X.1.size Bj Bj hf ((hat.grow hb.belowAll).isIn (λ_ _=>Ap _)) o).mono ?_;rintro r Y ⟨rfl,hbY⟩;have h:=HK _ Y rfl trivial (Aq hbY);simpa[AF,e0,e2]using h
  .have e3:t 3=_:=hg 3 (AX rfl);have h:=hK _ X rfl hEX (AP.refl _ _);refine Am rfl rfl ?_;clear hK hg;go_simp;simpa[AF,e3]using h
 .intro t X hb hEX hg;exact hQ t X hb (hg 4 Za)
def aV (_C _M:Nat) (c:Ca) (ua ub:OA) (d1 d2 h1 h2 _S:Nat) (_W:World) (i:Nat) (v:Value) (X:World):Prop:=match i with
 |0=>v=(.agg (vC c (some ⟨h1,0,none⟩) (some ⟨h2,0,none⟩) c.bu.wn c.bu.rn))
 |1=>v=(.agg (vC c ua ub d1 d2))
 |2=>∃g1 g2,v=.agg (vC c (some ⟨g1,0,none⟩) (some ⟨g2,0,none⟩) c.bu.wn c.bu.rn)/\CG X 0 X.1.size c.bu (some ⟨g1,0,none⟩) (some ⟨g2,0,none⟩)
 |3=>v=.bool true
 |4=>v=.bool false
 |_=>True
def fI (_C _M:Nat) (_c:Ca) (_ua _ub:OA) (_d1 _d2 _h1 _h2 _S:Nat) (_W:World) (i _q:Nat):Prop:=match i with
 |_=>False
theorem l9{p0 p1 p2 p4 p5 p6 p7 p8 Eb Es Eh El D8 Ej Ei EN EL EJ Ff Fe Fd Ev EK FA EU E9 Ez EV Fa Fb E8 Fc FM FD Fo Fz Fp Ft FC Fw Fy Fs Fu Fx Fq FE EY EP FQ GP GO Gj Gk Gm Ir Iq Hu Hi Ic Ib H9 HJ IH ID IF IE IG IC I9 Ja Jt Js Jb Je Jc IX IV IW Jz JA Jy JZ J0 JX JY J3 J5 J4 J6 Ke Ki Ma Md FX FW EZ E1 EC EA EB E0 E4 Hz Hx H8 Ia Hb G9 Ha G7 G5 G6 Ie H7 Hy:Value}{mk:(Nat->Value)->Array Value}(t0:Nat->Value) (C M:Nat) (c:Ca) (ua ub:OA) (d1 d2 h1 h2 S:Nat) (W:World) (hC:C<W.1.size) (cC0:W.cell? ⟨C,0,none⟩=some (.s c.client)) (cC1:W.cell? ⟨C,1,none⟩=some (.i c.num)) (cC2:W.cell? ⟨C,2,none⟩=some (.l ua c.bu.wn d1)) (cC3:W.cell? ⟨C,3,none⟩=some (.l ub c.bu.rn d2)) (hM:M<W.1.size) (cM0:W.cell? ⟨M,0,none⟩=some (.s c.client)) (cM1:W.cell? ⟨M,1,none⟩=some (.i c.num)) (cM2:W.cell? ⟨M,2,none⟩=some (.l (some ⟨h1,0,none⟩) c.bu.wn c.bu.wn)) (cM3:W.cell? ⟨M,3,none⟩=some (.l (some ⟨h2,0,none⟩) c.bu.rn c.bu.rn)) (hSC:S<=C) (hun:CG W 0 S c.bu ua ub) (hcf:EE c) (hat:JK W c.bu (some ⟨h1,0,none⟩) (some ⟨h2,0,none⟩) h1 h2) (hmk:mk=λt=>#[p0,p1,p2,.p C 0,p4,p5,p6,p7,p8,.p M 0,Eb,Es,Eh,El,D8,Ej,Ei,EN,EL,EJ,Ff,Fe,Fd,Ev,EK,FA,EU,E9,Ez,EV,Fa,Fb,E8,Fc,FM,FD,Fo,Fz,Fp,Ft,FC,Fw,Fy,Fs,Fu,Fx,Fq,FE,EY,EP,FQ,GP,GO,Gj,Gk,Gm,Ir,Iq,Hu,Hi,t 0,t 1,t 2,t 3,t 4,Ic,Ib,H9,HJ,IH,ID,IF,IE,IG,IC,I9,Ja,Jt,Js,Jb,Je,Jc,IX,IV,IW,Jz,JA,Jy,JZ,J0,JX,JY,J3,J5,J4,J6,Ke,Ki,Ma,Md,FX,FW,EZ,E1,EC,EA,EB,E0,E4,Hz,Hx,H8,Ia,Hb,G9,Ha,G7,G5,G6,Ie,H7,Hy]) (Q:Exit->Act->World->Prop) (hQ:∀(t:Nat->Value) X,AP (λ_q=>False) W X->((t 4)=.bool false)->Q .normal ⟨mk t,[]⟩ X):Code.wp prog (rg Tryz.f5 16) Q ⟨mk t0,[]⟩ W:=by
 refine GM Zc 5 mk t0 (λX=>True) (aV C M c ua ub d1 d2 h1 h2 S W) (fI C M c ua ub d1 d2 h1 h2 S W) (λq=>False) Zc Zc rfl trivial ?_ ?_ ?_ ?_;all_goals subst hmk
 .exact λi q h=>h
 .intro i j v X Y hi7 hj7 hij hEX h hf';rcases(show j=0\/j=1\/j=2\/j=3\/j=4 by omega)with rfl|rfl|rfl|rfl|rfl;.exact h
  .exact h
  .obtain⟨g1,g2,e,o⟩:=h;rcases(show i=0\/i=1\/i=2\/i=3\/i=4 by omega)with rfl|rfl|rfl|rfl|rfl<;>first|exact absurd rfl hij|exact⟨g1,g2,e,o.grow (hf'.below (λ_ _ q=>False.elim q) Bj)⟩
  .exact h
  .exact h
 .intro i hi7 t X K hb hEX hg hK;rcases(show i=0\/i=1\/i=2\/i=3\/i=4 by omega)with rfl|rfl|rfl|rfl|rfl;.have l0:=(hb.cell (p:=⟨M,0,none⟩) hM (λe=>by exact e)).trans cM0;have l1:=(hb.cell (p:=⟨M,1,none⟩) hM (λe=>by exact e)).trans cM1;have l2:=(hb.cell (p:=⟨M,2,none⟩) hM (λe=>by exact e)).trans cM2;have l3:=(hb.cell (p:=⟨M,3,none⟩) hM (λe=>by exact e)).trans cM3;have zM:=Aa hM hb.size;exact Rk
  .have l0:=(hb.cell (p:=⟨C,0,none⟩) hC (λe=>by exact e)).trans cC0;have l1:=(hb.cell (p:=⟨C,1,none⟩) hC (λe=>by exact e)).trans cC1;have l2:=(hb.cell (p:=⟨C,2,none⟩) hC (λe=>by exact e)).trans cC2;have l3:=(hb.cell (p:=⟨C,3,none⟩) hC (λe=>by exact e)).trans cC3;have zC:=Aa hC hb.size;exact Rk
  .have e1:t 1=_:=hg 1 (AX rfl);refine Am rfl rfl ?_;have HK:=Ai hK;clear hK hg;go_simp;go_at_call 25;refine(Pf c ua ub d1 d2 X 0 S rD hcf.u (hun.below hb.belowAll Za)).mono ?_;rintro r Y ⟨g1,g2,rfl,hA,_,_,_,_,hbY⟩;have h:=HK (.agg (vC c (some ⟨g1,0,none⟩) (some ⟨g2,0,none⟩) c.bu.wn c.bu.rn)) Y ⟨g1,g2,rfl,hA.isIn (λ_ _=>Ap _)⟩ trivial (Aq hbY);simpa[AF,e1]using h
  .have e0:t 0=_:=hg 0 (AX rfl);obtain⟨g1,g2,e2,o⟩:∃g1 g2,t 2=.agg (vC c (some ⟨g1,0,none⟩) (some ⟨g2,0,none⟩) c.bu.wn c.bu.rn)/\CG X 0 X.1.size c.bu (some ⟨g1,0,none⟩) (some ⟨g2,0,none⟩):=hg 2 (AX rfl);refine Am rfl rfl ?_;have HK:=Ai hK;clear hK hg;simp only[e0,e2];go_simp;go_at_call 28;refine(dI c _ _ _ _ _ _ _ _ X 0 X.1.size 0 X.1.size Bj Bj hcf.u ((hat.grow hb.belowAll).isIn (λ_ _=>Ap _)) o).mono ?_;rintro r Y ⟨rfl,hbY⟩;have h:=HK _ Y rfl trivial (Aq hbY);simpa[AF,e0,e2]using h
  .have e3:t 3=_:=hg 3 (AX rfl);have h:=hK _ X rfl hEX (AP.refl _ _);refine Am rfl rfl ?_;clear hK hg;go_simp;simpa[AF,e3]using h
 .intro t X hb hEX hg;exact hQ t X hb (hg 4 Za)
end Go.Proofs.YtllmmkchokkaaaaGreatDoor
