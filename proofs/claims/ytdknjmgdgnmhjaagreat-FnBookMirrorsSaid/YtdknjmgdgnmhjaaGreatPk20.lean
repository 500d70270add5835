import Derived.Test.YtdknjmgdgnmhjaaGreatPk19
set_option maxRecDepth 100000
set_option maxHeartbeats 8000000
namespace Go.Proofs.YtdknjmgdgnmhjaaGreat
open Go.RowKit Go.Maps Go.Proofs.Tryz
variable {W W':World}{s0 c1 c2 c3 d1 d2 k:Nat}{B:Bk}{a1 a2 a3 u1 u2:OA}{x:Bu}
theorem ng{P:Program}{id:Nat}{ops:Array Oper}{Q:Exit->Act->World->Prop}{a0:Act}(hm:P.follows .mixedOrders=true) (n m:Nat)(mk:(Nat->Value)->Array Value) (t0:Nat->Value) (G:Nat->Value->Prop) (B0 B1:Nat->World->Prop)(hn:ops.size=n) (ll:m+1<n) (Fj:((List.range ops.size).all λi=>match ops[i]? with|some o=>o.after.all (λe=>!(Region.binds .any e)||decide (e.on<i))|none=>true)=true)(Aea:Ci ops (m+1) m)(st0:∀z X Y,B0 z X->z<X.1.size->Below X.1.size X Y->B0 z Y) (st1:∀z X Y,B1 z X->z<X.1.size->Below X.1.size X Y->B1 z Y)(h0:a0=⟨mk t0,[]⟩)(sg:∀i,i<n->¬i=m->¬i=m+1->∀(t:Nat->Value) X K,Below W.1.size W X->(∀j,Ci ops i j->¬j=m->¬j=m+1->G j (t j))->(∀v Y,G i v->Below X.1.size X Y->K ⟨mk (AX t i v),[]⟩ Y)->wpOp P ops Q i K ⟨mk t,[]⟩ X)(sa:∀(t:Nat->Value) X K,(∀Y,B0 X.1.size Y->Below X.1.size X Y->X.1.size<Y.1.size->K ⟨mk (AX t m (.p (X.1.size) 0)),[]⟩ Y)->wpOp P ops Q m K ⟨mk t,[]⟩ X)(ss:∀(t:Nat->Value) X K z,t m=.p z 0->B0 z X->z<X.1.size->(∀j,Ci ops (m+1) j->¬j=m->¬j=m+1->G j (t j))->(∀v Y,B1 z Y->AB (λq=>q=z) X Y->K ⟨mk (AX t (m+1) v),[]⟩ Y)->wpOp P ops Q (m+1) K ⟨mk t,[]⟩ X)(G7:∀t X z,Below W.1.size W X->(∀i,i<n->¬i=m->¬i=m+1->G i (t i))->t m=.p z 0->W.1.size<=z->z<X.1.size->B1 z X->Q .normal ⟨mk t,[]⟩ X):(Code.region id ops true).wp P Q a0 W:=by
 have hlt:∀i j,Ci ops i j->i<n->j<i:=λi j hj hi=>by obtain⟨o,ho,e,he,YB,rfl⟩:=hj;have h1:=Bz.1 Fj i (by rw[hn];simpa using hi);simp only[ho]at h1;have h2:=(BO.1 h1) e he;rw[YB]at h2;simpa using h2
 refine Xv hm n mk t0 (λf t X=>Below W.1.size W X/\(∀i,i<n->¬i=m->¬i=m+1->f i=true->G i (t i))/\(f m=true->∃z,t m=.p z 0/\W.1.size<=z/\z<X.1.size/\(f (m+1)=false->B0 z X)/\(f (m+1)=true->B1 z X))/\(f (m+1)=true->f m=true)) hn Fj h0 ?_ ?_ ?_;.intro f hf;exact⟨(Ap _ _).drew,λi _ _ _ h=>by(rw[hf]at h;cases h),λh=>by(rw[hf]at h;cases h),λh=>by(rw[hf]at h;cases h)⟩
 .rintro i hi f t X K ⟨hA,hG,hZ,hM⟩ hfi hwi Li hK;by_cases e1:i=m
  .subst e1;have VP:f (i+1)=false:=by cases hx:f (i+1)with
    |false=>rfl
    |true=>rw[hM hx]at hfi;cases hfi
   refine sa t X K (λY hB Nn hlY=>hK _ Y (λg hgi cI=>⟨hA.trans (Nn.mono hA.size),λj hj h1 h2 hg=>?_,λ_=>⟨X.1.size,by rw[Cf],hA.size,hlY,λ_=>hB,λh=>?_⟩,λ_=>hgi⟩))
   .rw[BP h1];rw[cI j h1]at hg;exact hG j hj h1 h2 hg
   .rw[cI _ Za,VP]at h;cases h
  .by_cases e2:i=m+1
   .subst e2;obtain⟨z,ez,hz,VF,FV,_⟩:=hZ (hwi m Aea);refine ss t X K z ez (FV hfi) VF (λj hj h1 h2=>hG j (by have:=hlt _ j hj hi;omega) h1 h2 (hwi j hj)) (λv Y hB Pg=>hK v Y (λg hgi cI=>⟨hA.trans (Pg.below (λq hq e=>by have e':q=z:=e;omega) hA.size),λj hj h1 h2 hg=>?_,λ_=>⟨z,by rw[BP Za];exact ez,hz,Aa VF Pg.size,λh=>by(rw[hgi]at h;cases h),λ_=>hB⟩,λ_=>by rw[cI m Za];exact hwi m Aea⟩));rw[BP h2];rw[cI j h2]at hg;exact hG j hj h1 h2 hg
   .refine sg i hi e1 e2 t X K hA (λj hj h1 h2=>hG j (by have:=hlt i j hj hi;omega) h1 h2 (hwi j hj)) (λv Y hv Nn=>hK v Y (λg hgi cI=>⟨hA.trans (Nn.mono hA.size),λj hj h1 h2 hg=>?_,λhgm=>?_,λh=>?_⟩))
    .by_cases e:j=i;.subst e;rw[Cf];exact hv
     .rw[BP e];rw[cI j e]at hg;exact hG j hj h1 h2 hg
    .rw[cI m (λe=>e1 e.symm)]at hgm;obtain⟨z,ez,hz,VF,FV,AU⟩:=hZ hgm;refine⟨z,by rw[BP (λe=>e1 e.symm)];exact ez,hz,Aa VF Nn.size,λh=>?_,λh=>?_⟩;.rw[cI _ (λe=>e2 e.symm)]at h;exact st0 z X Y (FV h) VF Nn
     .rw[cI _ (λe=>e2 e.symm)]at h;exact st1 z X Y (AU h) VF Nn
    .rw[cI _ (λe=>e2 e.symm)]at h;rw[cI m (λe=>e1 e.symm)];exact hM h
 .rintro f t X hf ⟨hA,hG,hZ,_⟩;obtain⟨z,ez,hz,VF,_,AU⟩:=hZ (hf m Za);exact G7 t X z hA (λi hi h1 h2=>hG i hi h1 h2 (hf i hi)) ez hz VF (AU (hf _ Za))
def o_ (C:Int) (Y:Bk) (V:Int) (n:Nat) (w:World) (e:Ending) (w':World):Prop:=Below w.1.size w w'/\∃(a1 a2 a3:OA) (c1 c2 c3:Nat),e=.returned (.tuple #[.agg #[.i C,.i Y.v,.i Y.f,.l a1 Y.on c1,.l a2 Y.hn c2,.l a3 Y.tn c3,.i V],.i n])/\BL w' 0 w'.1.size Y a1 a2 a3
structure A3 (W:World) (s0:Nat) (B:Bk) (a1 a2 a3:OA) (c1 c2 c3:Nat) (x:Bu) (u1 u2:OA) (d1 d2:Nat):Prop where
 bk:GB W s0 (JR B a1 a2 a3 c1 c2 c3)bu:GB W (s0+1) (vUl x u1 u2 d1 d2)ans:Bx W (s0+1+1)bin:BL W 0 s0 B a1 a2 a3
 uin:IX W 0 s0 x u1 u2
theorem A3.below (h:A3 W s0 B a1 a2 a3 c1 c2 c3 x u1 u2 d1 d2) (hb:Below W.1.size W W'):A3 W' s0 B a1 a2 a3 c1 c2 c3 x u1 u2 d1 d2:=by have hz:=h.ans.row.lt;exact⟨h.bk.below hb Za,h.bu.below hb Za,h.ans.grow hb,h.bin.below hb Za,h.uin.below hb Za⟩
theorem A3.frBox (h:A3 W s0 B a1 a2 a3 c1 c2 c3 x u1 u2 d1 d2) {Z:Nat->Prop}(hf:AB Z W W') (hZ:∀q,Z q->s0+1+1<q):A3 W' s0 B a1 a2 a3 c1 c2 c3 x u1 u2 d1 d2:=by have hz:=h.ans.row.lt;have hB:Below (s0+1+1+1) W W':=hf.below (λq hq e=>by have:=hZ q e;omega) Za;exact⟨h.bk.below hB Za,h.bu.below hB Za,⟨h.ans.row.below hB Za,λj s e=>h.ans.no j s (by rw[<-hB.cell (p:=⟨s0+1+1,j,none⟩) (by show s0+1+1<_;omega)];exact e)⟩,h.bin.below hB Za,h.uin.below hB Za⟩
theorem fq (w:World) (B:Bk) (a1 a2 a3:OA) (c1 c2 c3:Nat) (x:Bu) (u1 u2:OA) (d1 d2:Nat) (hb:BL w 0 w.1.size B a1 a2 a3) (hu:IX w 0 w.1.size x u1 u2):A3 (((w.alloc (.cells (vB B a1 a2 a3 c1 c2 c3) 36)).alloc (.cells (vU x u1 u2 d1 d2) 118)).alloc (.cells #[.i 0,.i 0,.i 0,.l none 0 0,.l none 0 0,.l none 0 0,.i 0] 73)) w.1.size B a1 a2 a3 c1 c2 c3 x u1 u2 d1 d2:=by
 obtain⟨X0,X1,X2,Y1,Y2⟩:=BI (Ap (((w.alloc (.cells (vB B a1 a2 a3 c1 c2 c3) 36)).alloc (.cells (vU x u1 u2 d1 d2) 118)).alloc (.cells #[.i 0,.i 0,.i 0,.l none 0 0,.l none 0 0,.l none 0 0,.i 0] 73)).1.size (((w.alloc (.cells (vB B a1 a2 a3 c1 c2 c3) 36)).alloc (.cells (vU x u1 u2 d1 d2) 118)).alloc (.cells #[.i 0,.i 0,.i 0,.l none 0 0,.l none 0 0,.l none 0 0,.i 0] 73)));have hB:Below w.1.size w (((w.alloc (.cells (vB B a1 a2 a3 c1 c2 c3) 36)).alloc (.cells (vU x u1 u2 d1 d2) 118)).alloc (.cells #[.i 0,.i 0,.i 0,.l none 0 0,.l none 0 0,.l none 0 0,.i 0] 73)):=(((Ap _ _).alloc A9 _).alloc Ze _).alloc Zd _;refine⟨λj hj=>?_,λj hj=>?_,by have:=aq ((w.alloc (.cells (vB B a1 a2 a3 c1 c2 c3) 36)).alloc (.cells (vU x u1 u2 d1 d2) 118));simpa using this,hb.below hB A9,hu.below hB A9⟩;.rw[X0 j];exact Z_
 .rw[X1 j];rcases(show j=0\/j=1 by simp at hj;omega)with rfl|rfl<;>rfl
theorem cW{Q:Ending->World->Prop}{tmps:Array Value}{b:Nat}{v0 v1 v2 v3 v4 v5 v6:Value}{n:Int}(hr:AE W b 7 (AV [v0,v1,v2,v3,v4,v5,v6])) (h4:tmps[4]?.getD undef=.p b 0) (h5:tmps[5]?.getD undef=.i n) (hQ:Q (.returned (.tuple #[.agg #[v0,v1,v2,v3,v4,v5,v6],.i n])) W):bodyPost prog Tryz.f81 Q .ret ⟨tmps,[]⟩ W:=by obtain⟨u0,u1,u2,u3,u4,u5,u6⟩:=iE hr;exact bodyPost_ret (v:=.tuple #[.agg #[v0,v1,v2,v3,v4,v5,v6],.i n]) (by simp only[results,results81];simp[go_sem,h4,h5,u0,u1,u2,u3,u4,u5,u6]) rfl hQ
theorem zY{y:Wt}(h:ZY y=false):Cc y.k=false\/(Cc y.k=true/\Cc y.n=false)\/(Cc y.k=true/\Cc y.n=true/\y.t<0):=by unfold ZY at h;cases h1:Cc y.k with
 |false=>exact AA rfl
 |true=>cases h2:Cc y.n with
  |false=>exact Az (AA ⟨rfl,rfl⟩)
  |true=>rw[h1,h2]at h;simp at h;exact Az (Az ⟨rfl,rfl,Za⟩)
theorem Acn (h:10<x.wn\/10<x.rn):Ql x=false:=by cases hb:Ql x with
 |false=>rfl
 |true=>have:=Kg hb;have:=this.wn;have:=(Kg hb).rn;omega
theorem Abx (hk:k<x.wn) (h:ZY (x.ws k)=false):Ql x=false:=by cases hb:Ql x with
 |false=>rfl
 |true=>rw[(Kg hb).ws k hk]at h;cases h
theorem Aa0 (hk:k<x.rn) (h:N7 (x.rs k)=false):Ql x=false:=by cases hb:Ql x with
 |false=>rfl
 |true=>rw[(Kg hb).rs k hk]at h;cases h
theorem Aaz (h1:x.wn<=10) (h2:x.rn<=10) (h3:∀i,i<x.wn->ZY (x.ws i)=true) (h4:∀i,i<x.rn->N7 (x.rs i)=true):Ql x=true:=by unfold Ql;simp[h1,h2,AS.2 h3,AS.2 h4]
def jM (B:Bk) (x:Bu) (w:World) (e:Ending) (w':World):Prop:=if Ql x then o_ (CM B x) (BV B x) (Dc B x) (WR B x) w e w' else o_ 2 B 0 0 w e w'
theorem Aa8{w:World}{e:Ending}{w':World}(h:Ql x=false) (ha:o_ 2 B 0 0 w e w'):jM B x w e w':=by unfold jM;rw[if_neg Zcd];exact ha
theorem Abe (B:Bk) (x:Bu) (a1 a2 a3:OA) (c1 c2 c3:Nat) (u1 u2:OA) (d1 d2:Nat) (w:World) (No:BL w 0 w.1.size B a1 a2 a3) (PU:IX w 0 w.1.size x u1 u2) (h:10<x.wn\/10<x.rn):Calls prog 81 #[.agg (vB B a1 a2 a3 c1 c2 c3),.agg (vU x u1 u2 d1 d2)] w λe w'=>jM B x w e w':=by
 have HN:=Ab (Acn h);have hs:=fq w B a1 a2 a3 c1 c2 c3 x u1 u2 d1 d2 No PU;have hb:=(((Ap w.1.size w).alloc A9 (.cells (vB B a1 a2 a3 c1 c2 c3) 36)).alloc Ze (.cells (vU x u1 u2 d1 d2) 118)).alloc Zd (.cells #[.i 0,.i 0,.i 0,.l none 0 0,.l none 0 0,.l none 0 0,.i 0] 73);go_enter func81,ntmps81;go_upto_region 1 with fail;generalize(((w.alloc (.cells (vB B a1 a2 a3 c1 c2 c3) 36)).alloc (.cells (vU x u1 u2 d1 d2) 118)).alloc (.cells #[.i 0,.i 0,.i 0,.l none 0 0,.l none 0 0,.l none 0 0,.i 0] 73))=W1 at hs hb⊢;have HS:=Ab hs;have HB:=Ab hb;clear hs hb No PU;have p0:=HS.bk 0 Ze;have p1:=HS.bk 1 Ze;have p2:=HS.bk 2 Ze;have p3:=HS.bk 3 Ze;have p4:=HS.bk 4 Ze;have q0:=HS.bu 0 Ze;have q1:=HS.bu 1 Ze;have r0:=HS.ans.row.cell 0 Za;have r1:=HS.ans.row.cell 1 Za;have r2:=HS.ans.row.cell 2 Za;have r3:=HS.ans.row.cell 3 Za;have r4:=HS.ans.row.cell 4 Za;have r5:=HS.ans.row.cell 5 Za;have r6:=HS.ans.row.cell 6 Za;have rf:=HS.ans.row.free;have rz:=HS.ans.row.lt;simp only[AV,jc,Ac,Ad]at p0 p1 p2 p3 p4 q0 q1 r0 r1 r2 r3 r4 r5 r6;by_cases hw:10<x.wn;.exact dp
 .have hr:10<x.rn:=h.resolve_left hw;exact dp
def yF (s0:Nat) (B:Bk) (a1 a2 a3:OA) (c1 c2 c3:Nat) (x:Bu) (k b off d1:Nat) (i:Nat) (u:Value):Prop:=match i with
 |0=>u=.agg #[.i B.v,.i B.f,.l a1 B.on c1,.l a2 B.hn c2,.l a3 B.tn c3]
 |1=>u=.p (s0+1) 0
 |2=>u=.l (some ⟨b,off,none⟩) x.wn d1
 |3=>u=.i (k:Nat)
 |4=>u=.pointer (some ⟨b,off+k*3,none⟩)
 |5=>u=.pointer (some ⟨b,off+k*3,none⟩)
 |6=>u=.s (x.ws k).k
 |7=>u=.p (s0+1) 0
 |8=>u=.l (some ⟨b,off,none⟩) x.wn d1
 |9=>u=.i (k:Nat)
 |10=>u=.pointer (some ⟨b,off+k*3,none⟩)
 |11=>u=.pointer (some ⟨b,off+k*3+1,none⟩)
 |12=>u=.s (x.ws k).n
 |13=>∃(ad:OA) (cp:Nat),u=.tuple #[.agg #[.s (Ck B.os (x.ws k).k (x.ws k).n B.on).k,.s (Ck B.os (x.ws k).k (x.ws k).n B.on).n,.i (Ck B.os (x.ws k).k (x.ws k).n B.on).t,.i (Ck B.os (x.ws k).k (x.ws k).n B.on).b,.s (Ck B.os (x.ws k).k (x.ws k).n B.on).m,.bool (Ck B.os (x.ws k).k (x.ws k).n B.on).e,.l ad (Ck B.os (x.ws k).k (x.ws k).n B.on).hn cp],.bool (CC B.os (x.ws k).k (x.ws k).n B.on)]
 |14=>∃(ad:OA) (cp:Nat),u=.tuple #[.agg #[.s (Ck B.os (x.ws k).k (x.ws k).n B.on).k,.s (Ck B.os (x.ws k).k (x.ws k).n B.on).n,.i (Ck B.os (x.ws k).k (x.ws k).n B.on).t,.i (Ck B.os (x.ws k).k (x.ws k).n B.on).b,.s (Ck B.os (x.ws k).k (x.ws k).n B.on).m,.bool (Ck B.os (x.ws k).k (x.ws k).n B.on).e,.l ad (Ck B.os (x.ws k).k (x.ws k).n B.on).hn cp],.bool (CC B.os (x.ws k).k (x.ws k).n B.on)]
 |15=>∃(ad:OA) (cp:Nat),u=.agg #[.s (Ck B.os (x.ws k).k (x.ws k).n B.on).k,.s (Ck B.os (x.ws k).k (x.ws k).n B.on).n,.i (Ck B.os (x.ws k).k (x.ws k).n B.on).t,.i (Ck B.os (x.ws k).k (x.ws k).n B.on).b,.s (Ck B.os (x.ws k).k (x.ws k).n B.on).m,.bool (Ck B.os (x.ws k).k (x.ws k).n B.on).e,.l ad (Ck B.os (x.ws k).k (x.ws k).n B.on).hn cp]
 |16=>u=.bool (CC B.os (x.ws k).k (x.ws k).n B.on)
 |_=>True
theorem mm (p0 p1 p4 p5 p6 p7 Ee Em D1 DW DN DU DX DO DP DV DT D9 Ef EJ Ej El Ei Ed Eh Ek Ey Ev Ew Ex EM EH EI EV Er EB ER ES EQ EC ED Eo EW EU EK EL F9 FY F8 Ga FM Fz Fy FN Fv Gy Gx GO GI GQ Gw Gv Fu G9 Ha Hf Hd Hb Hc GL GK Hg In Ik Im Hj He G8 Hi Hh Fi EX E0 EZ EY Fg Fh Ho Hn Hm Hq GN GP GF GG Hr Hp IP IN IJ KO KQ KR JZ JV JY Mw J6 J3 JT J0 J5 J1 I8 I9 Jb J4 JX JW J7 JU o0 o1 o2 o3 o4 o5 o6 o7 o8 o9 o10 o11 o12 o13 o14 o15 o16 o17 o18 o19:Value) (s0:Nat) (B:Bk) (a1 a2 a3:OA) (c1 c2 c3:Nat) (x:Bu) (k b off d1:Nat) (u2:OA) (d2:Nat) (W:World) (hs:A3 W s0 B a1 a2 a3 c1 c2 c3 x (some ⟨b,off,none⟩) u2 d1 d2) (hk:k<x.wn) (_hl:(x.wn:Int)<=1048576) (hf:BS B) (Q:Exit->Act->World->Prop)(hQ:∀(t:Nat->Value) (z:Nat) X,Below W.1.size W X->z<X.1.size->X.cell? ⟨z,2,none⟩=some (.i (Ck B.os (x.ws k).k (x.ws k).n B.on).t)->Q .normal ⟨#[p0,p1,.pointer (some ⟨s0,0,none⟩),.pointer (some ⟨s0+1,0,none⟩),p4,p5,p6,p7,.int .i64 (k:Nat),.pointer (some ⟨z,0,none⟩),t 19,Ee,Em,D1,DW,DN,DU,DX,DO,DP,DV,DT,D9,Ef,EJ,Ej,El,Ei,Ed,Eh,Ek,Ey,Ev,Ew,Ex,EM,EH,EI,EV,Er,EB,ER,ES,EQ,EC,ED,Eo,EW,EU,EK,EL,F9,FY,F8,Ga,FM,Fz,Fy,FN,Fv,Gy,Gx,GO,GI,GQ,Gw,Gv,Fu,G9,Ha,Hf,Hd,Hb,Hc,GL,GK,Hg,In,Ik,Im,Hj,He,G8,Hi,Hh,t 14,t 0,t 1,t 2,t 3,t 4,t 5,t 6,t 7,t 8,t 9,t 10,t 11,t 12,t 13,t 15,t 16,Fi,EX,E0,EZ,EY,Fg,Fh,Ho,Hn,Hm,Hq,GN,GP,GF,GG,Hr,Hp,IP,IN,IJ,KO,KQ,KR,JZ,JV,JY,Mw,J6,J3,JT,J0,J5,J1,I8,I9,Jb,J4,JX,JW,J7,JU],[]⟩ X):Code.wp prog (rg Tryz.f81 16) Q ⟨#[p0,p1,.pointer (some ⟨s0,0,none⟩),.pointer (some ⟨s0+1,0,none⟩),p4,p5,p6,p7,.int .i64 (k:Nat),o17,o19,Ee,Em,D1,DW,DN,DU,DX,DO,DP,DV,DT,D9,Ef,EJ,Ej,El,Ei,Ed,Eh,Ek,Ey,Ev,Ew,Ex,EM,EH,EI,EV,Er,EB,ER,ES,EQ,EC,ED,Eo,EW,EU,EK,EL,F9,FY,F8,Ga,FM,Fz,Fy,FN,Fv,Gy,Gx,GO,GI,GQ,Gw,Gv,Fu,G9,Ha,Hf,Hd,Hb,Hc,GL,GK,Hg,In,Ik,Im,Hj,He,G8,Hi,Hh,o14,o0,o1,o2,o3,o4,o5,o6,o7,o8,o9,o10,o11,o12,o13,o15,o16,Fi,EX,E0,EZ,EY,Fg,Fh,Ho,Hn,Hm,Hq,GN,GP,GF,GG,Hr,Hp,IP,IN,IJ,KO,KQ,KR,JZ,JV,JY,Mw,J6,J3,JT,J0,J5,J1,I8,I9,Jb,J4,JX,JW,J7,JU],[]⟩ W:=by
 have HS:=Ab hs;have HF:=Ab hf;have Dh:=λ(X:World) (hb:Below W.1.size W X)=>hs.below hb;have HC:=Ab Dh;clear Dh hf hs;have zs:∀X,Below W.1.size W X->s0+1+1<X.1.size:=λX hb=>Aa HS.ans.row.lt hb.size;refine ng Zc 20 17 (λt:Nat->Value=>#[p0,p1,.p s0 0,.p (s0+1) 0,p4,p5,p6,p7,.i (k:Nat),t 17,t 19,Ee,Em,D1,DW,DN,DU,DX,DO,DP,DV,DT,D9,Ef,EJ,Ej,El,Ei,Ed,Eh,Ek,Ey,Ev,Ew,Ex,EM,EH,EI,EV,Er,EB,ER,ES,EQ,EC,ED,Eo,EW,EU,EK,EL,F9,FY,F8,Ga,FM,Fz,Fy,FN,Fv,Gy,Gx,GO,GI,GQ,Gw,Gv,Fu,G9,Ha,Hf,Hd,Hb,Hc,GL,GK,Hg,In,Ik,Im,Hj,He,G8,Hi,Hh,t 14,t 0,t 1,t 2,t 3,t 4,t 5,t 6,t 7,t 8,t 9,t 10,t 11,t 12,t 13,t 15,t 16,Fi,EX,E0,EZ,EY,Fg,Fh,Ho,Hn,Hm,Hq,GN,GP,GF,GG,Hr,Hp,IP,IN,IJ,KO,KQ,KR,JZ,JV,JY,Mw,J6,J3,JT,J0,J5,J1,I8,I9,Jb,J4,JX,JW,J7,JU]) (λi=>[o0,o1,o2,o3,o4,o5,o6,o7,o8,o9,o10,o11,o12,o13,o14,o15,o16,o17,o18,o19].getD i undef) (yF s0 B a1 a2 a3 c1 c2 c3 x k b off d1) (λz X=>AE X z 7 (AV [.s ⟨#[]⟩,.s ⟨#[]⟩,.i 0,.i 0,.s ⟨#[]⟩,.bool false,.l none 0 0])) (λz X=>X.cell? ⟨z,2,none⟩=some (.i (Ck B.os (x.ws k).k (x.ws k).n B.on).t)) Zc Zb Zc (AR rfl) (λz X Y h hz hb=>h.below hb hz) (λz X Y h hz hb=>(hb.cell (p:=⟨z,2,none⟩) hz).trans h) rfl ?_ ?_ ?_ ?_
 .intro i hi i1 i2 t X K hb hg hK;have hzs:=zs X hb;rcases(show i=0\/i=1\/i=2\/i=3\/i=4\/i=5\/i=6\/i=7\/i=8\/i=9\/i=10\/i=11\/i=12\/i=13\/i=14\/i=15\/i=16\/i=19 by omega)with rfl|rfl|rfl|rfl|rfl|rfl|rfl|rfl|rfl|rfl|rfl|rfl|rfl|rfl|rfl|rfl|rfl|rfl;.have p0:=(HC X hb).bk 0 Ze;have p1:=(HC X hb).bk 1 Ze;have p2:=(HC X hb).bk 2 Ze;have p3:=(HC X hb).bk 3 Ze;have p4:=(HC X hb).bk 4 Ze;simp only[AV,Ac,Ad]at p0 p1 p2 p3 p4;exact sg
  .exact sg
  .have AY:t 1=_:=hg 1 (AR rfl) Zb Zb;have q0:=(HC X hb).bu 0 Ze;simp only[AV,Ac]at q0;exact L7
  .exact sg
  .have AY:t 2=_:=hg 2 (AR rfl) Zb Zb;have Ff:t 3=_:=hg 3 (AR rfl) Zb Zb;exact Yq
  .have AY:t 4=_:=hg 4 (AR rfl) Zb Zb;exact L7
  .have AY:t 5=_:=hg 5 (AR rfl) Zb Zb;exact xj
  .exact sg
  .have AY:t 7=_:=hg 7 (AR rfl) Zb Zb;have q0:=(HC X hb).bu 0 Ze;simp only[AV,Ac]at q0;exact L7
  .exact sg
  .have AY:t 8=_:=hg 8 (AR rfl) Zb Zb;have Ff:t 9=_:=hg 9 (AR rfl) Zb Zb;exact Yq
  .have AY:t 10=_:=hg 10 (AR rfl) Zb Zb;exact L7
  .have AY:t 11=_:=hg 11 (AR rfl) Zb Zb;exact xj
  .have AY:t 0=_:=hg 0 (AR rfl) Zb Zb;have Ff:t 6=_:=hg 6 (AR rfl) Zb Zb;have UB:t 12=_:=hg 12 (AR rfl) Zb Zb;refine Au rfl rfl ?_;have HK:=Ab hK;clear hK hg;go_simp;go_at_call 57;refine(Ce B.v B.f B.on B.os a1 a2 a3 c1 B.hn c2 B.tn c3 (x.ws k).k (x.ws k).n X 0 s0 Za (by have:=HF.o;omega) HF.os (HC X hb).bin.o).mono ?_;rintro r Y ⟨ad,cp,rfl,_,_,Nn⟩;have h:=HK _ Y ⟨ad,cp,rfl⟩ Nn;simpa[AX,AY,Ff,UB]using h
  .obtain⟨ad,cp,lp⟩:=hg 13 (AR rfl) Zb Zb;have h:=hK _ X ⟨ad,cp,rfl⟩ Dx;refine Au rfl rfl ?_;clear hK hg;go_simp;simpa[AX,lp]using h
  .obtain⟨ad,cp,kD⟩:=hg 14 (AR rfl) Zb Zb;have h:=hK _ X ⟨ad,cp,rfl⟩ Dx;refine Au rfl rfl ?_;clear hK hg;go_simp;simpa[AX,kD]using h
  .obtain⟨ad,cp,ea⟩:=hg 14 (AR rfl) Zb Zb;exact sg
  .have AY:t 16=_:=hg 16 (AR rfl) Zb Zb;have h:=hK (.bool (CC B.os (x.ws k).k (x.ws k).n B.on)) X trivial Dx;exact Sd
 .intro t X K hK;have h:=hK _ (AE.new (l:=[.s ⟨#[]⟩,.s ⟨#[]⟩,.i 0,.i 0,.s ⟨#[]⟩,.bool false,.l none 0 0]) (t:=52) Dx) Do Ze;refine Au rfl rfl ?_;clear hK;go_simp;simpa[AX]using h
 .intro t X K z ez GH VF hg hK;obtain⟨ad,cp,e15⟩:=hg 15 (AR rfl) Zb Zb;have rf:=GH.free;obtain⟨r0,r1,r2,r3,r4,r5,r6⟩:=iE GH;have R7:=(jT (v0:=.s (Ck B.os (x.ws k).k (x.ws k).n B.on).k) (v1:=.s (Ck B.os (x.ws k).k (x.ws k).n B.on).n) (v2:=.i (Ck B.os (x.ws k).k (x.ws k).n B.on).t) (v3:=.i (Ck B.os (x.ws k).k (x.ws k).n B.on).b) (v4:=.s (Ck B.os (x.ws k).k (x.ws k).n B.on).m) (v5:=.bool (Ck B.os (x.ws k).k (x.ws k).n B.on).e) (v6:=.l ad (Ck B.os (x.ws k).k (x.ws k).n B.on).hn cp) GH).cell 2 Za;simp only[AV,Ac,Ad]at R7;have h:=hK (.tuple #[]) _ R7 (dq _ _ _ _ _ _ _);refine Au rfl rfl ?_;have H:=Ab h;clear hK hg h R7;go_simp;simpa[AX,ez,e15]using H.out
 .intro t X z hb hg ez hz VF hB;have h:=hQ t z X hb VF hB;rw[<-(show _=Value.pointer (some ⟨z,0,none⟩) from ez)]at h;exact h
end Go.Proofs.YtdknjmgdgnmhjaaGreat
