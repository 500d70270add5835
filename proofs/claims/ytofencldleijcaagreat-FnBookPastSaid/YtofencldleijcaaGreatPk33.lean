import Derived.Test.YtofencldleijcaaGreatPk17
import Derived.Test.YtofencldleijcaaGreatPk25
import Derived.Test.YtofencldleijcaaGreatPk31
import Derived.Test.YtofencldleijcaaGreatPk27
import Derived.Test.YtofencldleijcaaGreatPk22
set_option maxRecDepth 100000
set_option maxHeartbeats 8000000
namespace Go.Proofs.YtofencldleijcaaGreat
open Go.RowKit Go.Maps Go.Proofs.Tryz
theorem aG{P:Program}{id:Nat}{ops:Array Oper}{Q:Exit->Act->World->Prop}{a0:Act}{W:World}(hm:P.follows .mixedOrders=true)(n m:Nat)(mk:(Nat->Value)->Array Value)(t0:Nat->Value)(G:Nat->Value->Prop)(B0 B1:Nat->World->Prop)(hn:ops.size=n)(hmn:m+1<n)(hord:((List.range ops.size).all λi=>match ops[i]? with|some o=>o.after.all (λe=>!(Region.binds .any e)||decide (e.on<i))|none=>true)=true)(hbox:Cf ops (m+1) m)(st0:∀z X Y,B0 z X->z<X.1.size->Below X.1.size X Y->B0 z Y)(st1:∀z X Y,B1 z X->z<X.1.size->Below X.1.size X Y->B1 z Y)(h0:a0=⟨mk t0,[]⟩)(sg:∀i,i<n->¬i=m->¬i=m+1->∀(t:Nat->Value) X K,Below W.1.size W X->(∀j,Cf ops i j->¬j=m->¬j=m+1->G j (t j))->(∀v Y,G i v->Below X.1.size X Y->K ⟨mk (AN t i v),[]⟩ Y)->wpOp P ops Q i K ⟨mk t,[]⟩ X)(sa:∀(t:Nat->Value) X K,(∀Y,B0 X.1.size Y->Below X.1.size X Y->X.1.size<Y.1.size->K ⟨mk (AN t m (.p (X.1.size) 0)),[]⟩ Y)->wpOp P ops Q m K ⟨mk t,[]⟩ X)(ss:∀(t:Nat->Value) X K z,t m=.p z 0->B0 z X->z<X.1.size->(∀j,Cf ops (m+1) j->¬j=m->¬j=m+1->G j (t j))->(∀v Y,B1 z Y->AB (λq=>q=z) X Y->K ⟨mk (AN t (m+1) v),[]⟩ Y)->wpOp P ops Q (m+1) K ⟨mk t,[]⟩ X)(hfin:∀t X z,Below W.1.size W X->(∀i,i<n->¬i=m->¬i=m+1->G i (t i))->t m=.p z 0->W.1.size<=z->z<X.1.size->B1 z X->Q .normal ⟨mk t,[]⟩ X):(Code.region id ops true).wp P Q a0 W:=by
 have hlt:∀i j,Cf ops i j->i<n->j<i:=λi j hj hi=>by obtain⟨o,ho,e,he,hbd,rfl⟩:=hj;have h1:=Bt.1 hord i (by rw[hn];simpa using hi);simp only[ho]at h1;have h2:=(A9.1 h1) e he;rw[hbd]at h2;simpa using h2
 refine Q5 hm n mk t0 (λf t X=>Below W.1.size W X/\(∀i,i<n->¬i=m->¬i=m+1->f i=true->G i (t i))/\(f m=true->∃z,t m=.p z 0/\W.1.size<=z/\z<X.1.size/\(f (m+1)=false->B0 z X)/\(f (m+1)=true->B1 z X))/\(f (m+1)=true->f m=true)) hn hord h0 ?_ ?_ ?_;.intro f hf;exact⟨(Al _ _).drew,λi _ _ _ h=>by(rw[hf]at h;cases h),λh=>by(rw[hf]at h;cases h),λh=>by(rw[hf]at h;cases h)⟩
 .rintro i hi f t X K ⟨hA,hG,hZ,hM⟩ hfi hwi hcl hK;by_cases e1:i=m
  .subst e1;have hf1:f (i+1)=false:=by cases hx:f (i+1)with
    |false=>rfl
    |true=>rw[hM hx]at hfi;cases hfi
   refine sa t X K (λY hB hbY hlY=>hK _ Y (λg hgi hgj=>⟨hA.trans (hbY.mono hA.size),λj hj h1 h2 hg=>?_,λ_=>⟨X.1.size,by rw[BE],hA.size,hlY,λ_=>hB,λh=>?_⟩,λ_=>hgi⟩))
   .rw[BO h1];rw[hgj j h1]at hg;exact hG j hj h1 h2 hg
   .rw[hgj _ Zb,hf1]at h;cases h
  .by_cases e2:i=m+1
   .subst e2;obtain⟨z,ez,hz,hzX,hb0,_⟩:=hZ (hwi m hbox);refine ss t X K z ez (hb0 hfi) hzX (λj hj h1 h2=>hG j (by have:=hlt _ j hj hi;omega) h1 h2 (hwi j hj)) (λv Y hB hfY=>hK v Y (λg hgi hgj=>⟨hA.trans (hfY.below (λq hq e=>by have e':q=z:=e;omega) hA.size),λj hj h1 h2 hg=>?_,λ_=>⟨z,by rw[BO Zb];exact ez,hz,Ad hzX hfY.size,λh=>by(rw[hgi]at h;cases h),λ_=>hB⟩,λ_=>by rw[hgj m Zb];exact hwi m hbox⟩));rw[BO h2];rw[hgj j h2]at hg;exact hG j hj h1 h2 hg
   .refine sg i hi e1 e2 t X K hA (λj hj h1 h2=>hG j (by have:=hlt i j hj hi;omega) h1 h2 (hwi j hj)) (λv Y hv hbY=>hK v Y (λg hgi hgj=>⟨hA.trans (hbY.mono hA.size),λj hj h1 h2 hg=>?_,λhgm=>?_,λh=>?_⟩))
    .by_cases e:j=i;.subst e;rw[BE];exact hv
     .rw[BO e];rw[hgj j e]at hg;exact hG j hj h1 h2 hg
    .rw[hgj m (λe=>e1 e.symm)]at hgm;obtain⟨z,ez,hz,hzX,hb0,hb1⟩:=hZ hgm;refine⟨z,by rw[BO (λe=>e1 e.symm)];exact ez,hz,Ad hzX hbY.size,λh=>?_,λh=>?_⟩;.rw[hgj _ (λe=>e2 e.symm)]at h;exact st0 z X Y (hb0 h) hzX hbY
     .rw[hgj _ (λe=>e2 e.symm)]at h;exact st1 z X Y (hb1 h) hzX hbY
    .rw[hgj _ (λe=>e2 e.symm)]at h;rw[hgj m (λe=>e1 e.symm)];exact hM h
 .rintro f t X hf ⟨hA,hG,hZ,_⟩;obtain⟨z,ez,hz,hzX,_,hb1⟩:=hZ (hf m Zb);exact hfin t X z hA (λi hi h1 h2=>hG i hi h1 h2 (hf i hi)) ez hz hzX (hb1 (hf _ Zb))
def dJ (C:Int)(Y:Bk)(V:Int)(n:Nat)(w:World)(e:Ending)(w':World):Prop:=Below w.1.size w w'/\∃(a1 a2 a3:OA)(c1 c2 c3:Nat),e=.returned (.tuple #[.agg #[.i C,.i Y.now,.i Y.floor,.l a1 Y.on c1,.l a2 Y.hn c2,.l a3 Y.tn c3,.i V],.i n])/\B7 w' 0 w'.1.size Y a1 a2 a3
structure A3 (W:World)(s0:Nat)(B:Bk)(a1 a2 a3:OA)(c1 c2 c3:Nat)(x:Bu)(u1 u2:OA)(d1 d2:Nat):Prop where
 bk:D4 W s0 (Mu B a1 a2 a3 c1 c2 c3)bu:D4 W (s0+1) (iZ x u1 u2 d1 d2)ans:Bx W (s0+1+1)bin:B7 W 0 s0 B a1 a2 a3
 uin:Fl W 0 s0 x u1 u2
theorem A3.below{W W':World}{s0:Nat}{B:Bk}{a1 a2 a3:OA}{c1 c2 c3:Nat}{x:Bu}{u1 u2:OA}{d1 d2:Nat}(h:A3 W s0 B a1 a2 a3 c1 c2 c3 x u1 u2 d1 d2)(hb:Below W.1.size W W'):A3 W' s0 B a1 a2 a3 c1 c2 c3 x u1 u2 d1 d2:=by have hz:=h.ans.row.lt;exact⟨h.bk.below hb Zb,h.bu.below hb Zb,h.ans.grow hb,h.bin.below hb Zb,h.uin.below hb Zb⟩
theorem A3.frBox{W W':World}{s0:Nat}{B:Bk}{a1 a2 a3:OA}{c1 c2 c3:Nat}{x:Bu}{u1 u2:OA}{d1 d2:Nat}(h:A3 W s0 B a1 a2 a3 c1 c2 c3 x u1 u2 d1 d2){Z:Nat->Prop}(hf:AB Z W W')(hZ:∀q,Z q->s0+1+1<q):A3 W' s0 B a1 a2 a3 c1 c2 c3 x u1 u2 d1 d2:=by have hz:=h.ans.row.lt;have hB:Below (s0+1+1+1) W W':=hf.below (λq hq e=>by have:=hZ q e;omega) Zb;exact⟨h.bk.below hB Zb,h.bu.below hB Zb,⟨h.ans.row.below hB Zb,λj s e=>h.ans.no j s (by rw[<-hB.cell (p:=⟨s0+1+1,j,none⟩) (by show s0+1+1<_;omega)];exact e)⟩,h.bin.below hB Zb,h.uin.below hB Zb⟩
theorem XZ (w:World)(B:Bk)(a1 a2 a3:OA)(c1 c2 c3:Nat)(x:Bu)(u1 u2:OA)(d1 d2:Nat)(hb:B7 w 0 w.1.size B a1 a2 a3)(hu:Fl w 0 w.1.size x u1 u2):A3 (((w.alloc (.cells (vB B a1 a2 a3 c1 c2 c3) 27)).alloc (.cells (vU x u1 u2 d1 d2) 88)).alloc (.cells #[.i 0,.i 0,.i 0,.l none 0 0,.l none 0 0,.l none 0 0,.i 0] 33)) w.1.size B a1 a2 a3 c1 c2 c3 x u1 u2 d1 d2:=by
 obtain⟨X0,X1,X2,Y1,Y2⟩:=BQ (Al (((w.alloc (.cells (vB B a1 a2 a3 c1 c2 c3) 27)).alloc (.cells (vU x u1 u2 d1 d2) 88)).alloc (.cells #[.i 0,.i 0,.i 0,.l none 0 0,.l none 0 0,.l none 0 0,.i 0] 33)).1.size (((w.alloc (.cells (vB B a1 a2 a3 c1 c2 c3) 27)).alloc (.cells (vU x u1 u2 d1 d2) 88)).alloc (.cells #[.i 0,.i 0,.i 0,.l none 0 0,.l none 0 0,.l none 0 0,.i 0] 33)));have hB:Below w.1.size w (((w.alloc (.cells (vB B a1 a2 a3 c1 c2 c3) 27)).alloc (.cells (vU x u1 u2 d1 d2) 88)).alloc (.cells #[.i 0,.i 0,.i 0,.l none 0 0,.l none 0 0,.l none 0 0,.i 0] 33)):=(((Al _ _).alloc Bg _).alloc Zc _).alloc Zd _;refine⟨λj hj=>?_,λj hj=>?_,by have:=YG ((w.alloc (.cells (vB B a1 a2 a3 c1 c2 c3) 27)).alloc (.cells (vU x u1 u2 d1 d2) 88));simpa using this,hb.below hB Bg,hu.below hB Bg⟩;.rw[X0 j];rcases(show j=0\/j=1\/j=2\/j=3\/j=4 by simp at hj;omega)with rfl|rfl|rfl|rfl|rfl<;>rfl
 .rw[X1 j];rcases(show j=0\/j=1 by simp at hj;omega)with rfl|rfl<;>rfl
theorem QE{Q:Ending->World->Prop}{tmps:Array Value}{W:World}{b:Nat}{v0 v1 v2 v3 v4 v5 v6:Value}{n:Int}(hr:AM W b 7 (A7 [v0,v1,v2,v3,v4,v5,v6]))(h4:tmps[4]?.getD undef=.p b 0)(h5:tmps[5]?.getD undef=.i n)(hQ:Q (.returned (.tuple #[.agg #[v0,v1,v2,v3,v4,v5,v6],.i n])) W):bodyPost prog Tryz.f65 Q .ret ⟨tmps,[]⟩ W:=by obtain⟨u0,u1,u2,u3,u4,u5,u6⟩:=lN hr;exact bodyPost_ret (v:=.tuple #[.agg #[v0,v1,v2,v3,v4,v5,v6],.i n]) (by simp only[results,results65];simp[go_sem,h4,h5,u0,u1,u2,u3,u4,u5,u6]) rfl hQ
theorem Yi{y:Wt}(h:SH y=false):By y.kind=false\/(By y.kind=true/\By y.name=false)\/(By y.kind=true/\By y.name=true/\y.ver<0):=by unfold SH at h;cases h1:By y.kind with
 |false=>exact AO rfl
 |true=>cases h2:By y.name with
  |false=>exact AD (AO ⟨rfl,rfl⟩)
  |true=>rw[h1,h2]at h;simp at h;exact AD (AD ⟨rfl,rfl,Zb⟩)
theorem eR{x:Bu}(h:10<x.wn\/10<x.rn):MC x=false:=by cases hb:MC x with
 |false=>rfl
 |true=>have:=IB hb;have:=this.wn;have:=(IB hb).rn;omega
theorem gR{x:Bu}{k:Nat}(hk:k<x.wn)(h:SH (x.ws k)=false):MC x=false:=by cases hb:MC x with
 |false=>rfl
 |true=>rw[(IB hb).ws k hk]at h;cases h
theorem fL{x:Bu}{k:Nat}(hk:k<x.rn)(h:EU (x.rs k)=false):MC x=false:=by cases hb:MC x with
 |false=>rfl
 |true=>rw[(IB hb).rs k hk]at h;cases h
theorem eY{x:Bu}(h1:x.wn<=10)(h2:x.rn<=10)(h3:∀i,i<x.wn->SH (x.ws i)=true)(h4:∀i,i<x.rn->EU (x.rs i)=true):MC x=true:=by unfold MC;simp[h1,h2,AC.2 h3,AC.2 h4]
def US (B:Bk)(x:Bu)(w:World)(e:Ending)(w':World):Prop:=if MC x then dJ (Ct B x) (BI B x) (CG B x) (Rv B x) w e w' else dJ 2 B 0 0 w e w'
theorem Yx{B:Bk}{x:Bu}{w:World}{e:Ending}{w':World}(h:MC x=false)(ha:dJ 2 B 0 0 w e w'):US B x w e w':=by unfold US;rw[if_neg (by rw[h];decide)];exact ha
theorem Yo{P:Prop}(h:P:=by
  have zz:=HS.ans.row.lt;have zb:=HB.size;go_wp2;refine QE (Tm HS.ans.row) rfl rfl (Yx HN ⟨?_,a1,a2,a3,c1,c2,c3,rfl,?_⟩);.exact HB.trans ((UB (.i 2) (.i B.now) (.i B.floor) (.l a1 B.on c1) (.l a2 B.hn c2) (.l a3 B.tn c3) (.i 0)).below (λq hq e=>by have e':q=w.1.size+1+1:=e;omega) zb)
  .exact((HS.bin.below ((UB (.i 2) (.i B.now) (.i B.floor) (.l a1 B.on c1) (.l a2 B.hn c2) (.l a3 B.tn c3) (.i 0)).below (B:=w.1.size) (λq hq e=>by have e':q=w.1.size+1+1:=e;omega) zb) Bg)).upTo iW):P:=h
theorem eU (B:Bk)(x:Bu)(a1 a2 a3:OA)(c1 c2 c3:Nat)(u1 u2:OA)(d1 d2:Nat)(w:World)(hbk:B7 w 0 w.1.size B a1 a2 a3)(hbu:Fl w 0 w.1.size x u1 u2)(h:10<x.wn\/10<x.rn):Calls prog 65 #[.agg (vB B a1 a2 a3 c1 c2 c3),.agg (vU x u1 u2 d1 d2)] w λe w'=>US B x w e w':=by
 have HN:=Ag (eR h);have hs:=XZ w B a1 a2 a3 c1 c2 c3 x u1 u2 d1 d2 hbk hbu;have hb:=(((Al w.1.size w).alloc Bg (.cells (vB B a1 a2 a3 c1 c2 c3) 27)).alloc Zc (.cells (vU x u1 u2 d1 d2) 88)).alloc Zd (.cells #[.i 0,.i 0,.i 0,.l none 0 0,.l none 0 0,.l none 0 0,.i 0] 33);go_enter func65,ntmps65;go_upto_region 1 with fail;generalize(((w.alloc (.cells (vB B a1 a2 a3 c1 c2 c3) 27)).alloc (.cells (vU x u1 u2 d1 d2) 88)).alloc (.cells #[.i 0,.i 0,.i 0,.l none 0 0,.l none 0 0,.l none 0 0,.i 0] 33))=W1 at hs hb⊢;have HS:=Ag hs;have HB:=Ag hb;clear hs hb hbk hbu;have p0:=HS.bk 0 Zc;have p1:=HS.bk 1 Zc;have p2:=HS.bk 2 Zc;have p3:=HS.bk 3 Zc;have p4:=HS.bk 4 Zc;have q0:=HS.bu 0 Zc;have q1:=HS.bu 1 Zc;have r0:=HS.ans.row.cell 0 Zb;have r1:=HS.ans.row.cell 1 Zb;have r2:=HS.ans.row.cell 2 Zb;have r3:=HS.ans.row.cell 3 Zb;have r4:=HS.ans.row.cell 4 Zb;have r5:=HS.ans.row.cell 5 Zb;have r6:=HS.ans.row.cell 6 Zb;have rf:=HS.ans.row.free;have rz:=HS.ans.row.lt;simp only[A7,XG,Ae,Af]at p0 p1 p2 p3 p4 q0 q1 r0 r1 r2 r3 r4 r5 r6;by_cases hw:10<x.wn;.exact Yo
 .have hr:10<x.rn:=h.resolve_left hw;exact Yo
def Wl (s0:Nat)(B:Bk)(a1 a2 a3:OA)(c1 c2 c3:Nat)(x:Bu)(k b off d1:Nat)(i:Nat)(u:Value):Prop:=match i with
 |0=>u=.agg #[.int .i64 B.now,.int .i64 B.floor,.slice a1 B.on c1,.slice a2 B.hn c2,.slice a3 B.tn c3]
 |1=>u=.pointer (some ⟨s0+1,0,none⟩)
 |2=>u=.slice (some ⟨b,off,none⟩) x.wn d1
 |3=>u=.int .i64 (k:Nat)
 |4=>u=.pointer (some ⟨b,off+k*3,none⟩)
 |5=>u=.pointer (some ⟨b,off+k*3,none⟩)
 |6=>u=.string (x.ws k).kind
 |7=>u=.pointer (some ⟨s0+1,0,none⟩)
 |8=>u=.slice (some ⟨b,off,none⟩) x.wn d1
 |9=>u=.int .i64 (k:Nat)
 |10=>u=.pointer (some ⟨b,off+k*3,none⟩)
 |11=>u=.pointer (some ⟨b,off+k*3+1,none⟩)
 |12=>u=.string (x.ws k).name
 |13=>∃(ad:OA)(cp:Nat),u=.tuple #[.agg #[.string (BS B.os (x.ws k).kind (x.ws k).name B.on).kind,.string (BS B.os (x.ws k).kind (x.ws k).name B.on).name,.int .i64 (BS B.os (x.ws k).kind (x.ws k).name B.on).ver,.int .i64 (BS B.os (x.ws k).kind (x.ws k).name B.on).born,.string (BS B.os (x.ws k).kind (x.ws k).name B.on).text,.bool (BS B.os (x.ws k).kind (x.ws k).name B.on).ending,.slice ad (BS B.os (x.ws k).kind (x.ws k).name B.on).hn cp],.bool (B8 B.os (x.ws k).kind (x.ws k).name B.on)]
 |14=>∃(ad:OA)(cp:Nat),u=.tuple #[.agg #[.string (BS B.os (x.ws k).kind (x.ws k).name B.on).kind,.string (BS B.os (x.ws k).kind (x.ws k).name B.on).name,.int .i64 (BS B.os (x.ws k).kind (x.ws k).name B.on).ver,.int .i64 (BS B.os (x.ws k).kind (x.ws k).name B.on).born,.string (BS B.os (x.ws k).kind (x.ws k).name B.on).text,.bool (BS B.os (x.ws k).kind (x.ws k).name B.on).ending,.slice ad (BS B.os (x.ws k).kind (x.ws k).name B.on).hn cp],.bool (B8 B.os (x.ws k).kind (x.ws k).name B.on)]
 |15=>∃(ad:OA)(cp:Nat),u=.agg #[.string (BS B.os (x.ws k).kind (x.ws k).name B.on).kind,.string (BS B.os (x.ws k).kind (x.ws k).name B.on).name,.int .i64 (BS B.os (x.ws k).kind (x.ws k).name B.on).ver,.int .i64 (BS B.os (x.ws k).kind (x.ws k).name B.on).born,.string (BS B.os (x.ws k).kind (x.ws k).name B.on).text,.bool (BS B.os (x.ws k).kind (x.ws k).name B.on).ending,.slice ad (BS B.os (x.ws k).kind (x.ws k).name B.on).hn cp]
 |16=>u=.bool (B8 B.os (x.ws k).kind (x.ws k).name B.on)
 |_=>True
theorem ZQ (p0 p1 p4 p5 p6 p7 Du DC Dx Da CY CV CX CW CR C4 CU CS CQ Dl C6 Db C9 C7 Dj Dg Df Dk Dh De Dt Di Dy DB EF EI EK EL EJ EE Ej Ei EA EB Ew Ex EW FU FW FV FC FA Fz FT Fx Hl Hm Hn Hk Hj GL GN GX GT GY GP GZ GV GQ GS GR G4 IA It Iu GU GO G3 GM G5 Ec Ed Eb D9 Ea Em Ek FI FE FH FJ Fd Fg Fh Ff Fe Fi Ga F8 F9 Ig Ih Ib Ie In If Ko Ij Io Ik Ii Il Im GF GE Jf Kj Km Kq Kl Kn o0 o1 o2 o3 o4 o5 o6 o7 o8 o9 o10 o11 o12 o13 o14 o15 o16 o17 o18 o19:Value)(s0:Nat)(B:Bk)(a1 a2 a3:OA)(c1 c2 c3:Nat)(x:Bu)(k b off d1:Nat)(u2:OA)(d2:Nat)(W:World)(hs:A3 W s0 B a1 a2 a3 c1 c2 c3 x (some ⟨b,off,none⟩) u2 d1 d2)(hk:k<x.wn)(_hl:(x.wn:Int)<=1048576)(hf:Dm B)(Q:Exit->Act->World->Prop)(hQ:∀(t:Nat->Value)(z:Nat) X,Below W.1.size W X->z<X.1.size->X.cell? ⟨z,2,none⟩=some (.int .i64 (BS B.os (x.ws k).kind (x.ws k).name B.on).ver)->Q .normal ⟨#[p0,p1,.pointer (some ⟨s0,0,none⟩),.pointer (some ⟨s0+1,0,none⟩),p4,p5,p6,p7,.int .i64 (k:Nat),.pointer (some ⟨z,0,none⟩),t 19,Du,DC,Dx,Da,CY,CV,CX,CW,CR,C4,CU,CS,CQ,Dl,C6,Db,C9,C7,Dj,Dg,Df,Dk,Dh,De,Dt,Di,Dy,DB,EF,EI,EK,EL,EJ,EE,Ej,Ei,EA,EB,Ew,Ex,EW,FU,FW,FV,FC,FA,Fz,FT,Fx,Hl,Hm,Hn,Hk,Hj,GL,GN,GX,GT,GY,GP,GZ,GV,GQ,GS,GR,G4,IA,It,Iu,GU,GO,G3,GM,G5,t 14,t 0,t 1,t 2,t 3,t 4,t 5,t 6,t 7,t 8,t 9,t 10,t 11,t 12,t 13,t 15,t 16,Ec,Ed,Eb,D9,Ea,Em,Ek,FI,FE,FH,FJ,Fd,Fg,Fh,Ff,Fe,Fi,Ga,F8,F9,Ig,Ih,Ib,Ie,In,If,Ko,Ij,Io,Ik,Ii,Il,Im,GF,GE,Jf,Kj,Km,Kq,Kl,Kn],[]⟩ X):Code.wp prog (rg Tryz.f65 16) Q ⟨#[p0,p1,.pointer (some ⟨s0,0,none⟩),.pointer (some ⟨s0+1,0,none⟩),p4,p5,p6,p7,.int .i64 (k:Nat),o17,o19,Du,DC,Dx,Da,CY,CV,CX,CW,CR,C4,CU,CS,CQ,Dl,C6,Db,C9,C7,Dj,Dg,Df,Dk,Dh,De,Dt,Di,Dy,DB,EF,EI,EK,EL,EJ,EE,Ej,Ei,EA,EB,Ew,Ex,EW,FU,FW,FV,FC,FA,Fz,FT,Fx,Hl,Hm,Hn,Hk,Hj,GL,GN,GX,GT,GY,GP,GZ,GV,GQ,GS,GR,G4,IA,It,Iu,GU,GO,G3,GM,G5,o14,o0,o1,o2,o3,o4,o5,o6,o7,o8,o9,o10,o11,o12,o13,o15,o16,Ec,Ed,Eb,D9,Ea,Em,Ek,FI,FE,FH,FJ,Fd,Fg,Fh,Ff,Fe,Fi,Ga,F8,F9,Ig,Ih,Ib,Ie,In,If,Ko,Ij,Io,Ik,Ii,Il,Im,GF,GE,Jf,Kj,Km,Kq,Kl,Kn],[]⟩ W:=by
 have HS:=Ag hs;have HF:=Ag hf;have hcx:=λ(X:World)(hb:Below W.1.size W X)=>hs.below hb;have HC:=Ag hcx;clear hcx hf hs;have zs:∀X,Below W.1.size W X->s0+1+1<X.1.size:=λX hb=>Ad HS.ans.row.lt hb.size;refine aG Ze 20 17 (λt:Nat->Value=>#[p0,p1,.pointer (some ⟨s0,0,none⟩),.pointer (some ⟨s0+1,0,none⟩),p4,p5,p6,p7,.int .i64 (k:Nat),t 17,t 19,Du,DC,Dx,Da,CY,CV,CX,CW,CR,C4,CU,CS,CQ,Dl,C6,Db,C9,C7,Dj,Dg,Df,Dk,Dh,De,Dt,Di,Dy,DB,EF,EI,EK,EL,EJ,EE,Ej,Ei,EA,EB,Ew,Ex,EW,FU,FW,FV,FC,FA,Fz,FT,Fx,Hl,Hm,Hn,Hk,Hj,GL,GN,GX,GT,GY,GP,GZ,GV,GQ,GS,GR,G4,IA,It,Iu,GU,GO,G3,GM,G5,t 14,t 0,t 1,t 2,t 3,t 4,t 5,t 6,t 7,t 8,t 9,t 10,t 11,t 12,t 13,t 15,t 16,Ec,Ed,Eb,D9,Ea,Em,Ek,FI,FE,FH,FJ,Fd,Fg,Fh,Ff,Fe,Fi,Ga,F8,F9,Ig,Ih,Ib,Ie,In,If,Ko,Ij,Io,Ik,Ii,Il,Im,GF,GE,Jf,Kj,Km,Kq,Kl,Kn]) (λi=>[o0,o1,o2,o3,o4,o5,o6,o7,o8,o9,o10,o11,o12,o13,o14,o15,o16,o17,o18,o19].getD i undef) (Wl s0 B a1 a2 a3 c1 c2 c3 x k b off d1) (λz X=>AM X z 7 (A7 [.string ⟨#[]⟩,.string ⟨#[]⟩,.int .i64 0,.int .i64 0,.string ⟨#[]⟩,.bool false,.slice none 0 0])) (λz X=>X.cell? ⟨z,2,none⟩=some (.int .i64 (BS B.os (x.ws k).kind (x.ws k).name B.on).ver)) Ze Za Ze (BB rfl) (λz X Y h hz hb=>h.below hb hz) (λz X Y h hz hb=>(hb.cell (p:=⟨z,2,none⟩) hz).trans h) rfl ?_ ?_ ?_ ?_
 .intro i hi i1 i2 t X K hb hg hK;have hzs:=zs X hb;rcases(show i=0\/i=1\/i=2\/i=3\/i=4\/i=5\/i=6\/i=7\/i=8\/i=9\/i=10\/i=11\/i=12\/i=13\/i=14\/i=15\/i=16\/i=19 by omega)with rfl|rfl|rfl|rfl|rfl|rfl|rfl|rfl|rfl|rfl|rfl|rfl|rfl|rfl|rfl|rfl|rfl|rfl
  .have p0:=(HC X hb).bk 0 Zc;have p1:=(HC X hb).bk 1 Zc;have p2:=(HC X hb).bk 2 Zc;have p3:=(HC X hb).bk 3 Zc;have p4:=(HC X hb).bk 4 Zc;simp only[A7,Ae,Af]at p0 p1 p2 p3 p4;exact sg
  .exact sg
  .have ea:t 1=_:=hg 1 (BB rfl) Za Za;have q0:=(HC X hb).bu 0 Zc;simp only[A7,Ae]at q0;exact sg
  .exact sg
  .have ea:t 2=_:=hg 2 (BB rfl) Za Za;have eb:t 3=_:=hg 3 (BB rfl) Za Za;exact sg
  .have ea:t 4=_:=hg 4 (BB rfl) Za Za;exact sg
  .have ea:t 5=_:=hg 5 (BB rfl) Za Za;obtain⟨b9,off9,h9,_,_,hc9⟩:=(HC X hb).uin.wt k hk;cases h9;obtain⟨d90,d91,d92⟩:=hc9;exact sg
  .exact sg
  .have ea:t 7=_:=hg 7 (BB rfl) Za Za;have q0:=(HC X hb).bu 0 Zc;simp only[A7,Ae]at q0;exact sg
  .exact sg
  .have ea:t 8=_:=hg 8 (BB rfl) Za Za;have eb:t 9=_:=hg 9 (BB rfl) Za Za;exact sg
  .have ea:t 10=_:=hg 10 (BB rfl) Za Za;exact sg
  .have ea:t 11=_:=hg 11 (BB rfl) Za Za;obtain⟨b9,off9,h9,_,_,hc9⟩:=(HC X hb).uin.wt k hk;cases h9;obtain⟨d90,d91,d92⟩:=hc9;exact sg
  .have e0:t 0=_:=hg 0 (BB rfl) Za Za;have e6:t 6=_:=hg 6 (BB rfl) Za Za;have e12:t 12=_:=hg 12 (BB rfl) Za Za;refine Ar rfl rfl ?_;have HK:=Ag hK;clear hK hg;go_simp;go_at_call 38;refine(BP B.now B.floor B.on B.os a1 a2 a3 c1 B.hn c2 B.tn c3 (x.ws k).kind (x.ws k).name X 0 s0 Zb (by have:=HF.o;omega) HF.os (HC X hb).bin.o).mono ?_;rintro r Y ⟨ad,cp,rfl,_,_,hbY⟩;have h:=HK _ Y ⟨ad,cp,rfl⟩ hbY;simpa[AN,e0,e6,e12]using h
  .obtain⟨ad,cp,e13⟩:=hg 13 (BB rfl) Za Za;have h:=hK _ X ⟨ad,cp,rfl⟩ Ck;refine Ar rfl rfl ?_;clear hK hg;go_simp;simpa[AN,e13]using h
  .obtain⟨ad,cp,e14⟩:=hg 14 (BB rfl) Za Za;have h:=hK _ X ⟨ad,cp,rfl⟩ Ck;refine Ar rfl rfl ?_;clear hK hg;go_simp;simpa[AN,e14]using h
  .obtain⟨ad,cp,ea⟩:=hg 14 (BB rfl) Za Za;exact sg
  .have e16:t 16=_:=hg 16 (BB rfl) Za Za;have h:=hK (.bool (B8 B.os (x.ws k).kind (x.ws k).name B.on)) X trivial Ck;refine Ar rfl rfl ?_;clear hK hg;go_simp;simpa[AN,e16]using h
 .intro t X K hK;have h:=hK _ (AM.new (l:=[.string ⟨#[]⟩,.string ⟨#[]⟩,.int .i64 0,.int .i64 0,.string ⟨#[]⟩,.bool false,.slice none 0 0]) (t:=61) Ck) EC Zc;refine Ar rfl rfl ?_;clear hK;go_simp;simpa[AN]using h
 .intro t X K z ez hz0 hzX hg hK;obtain⟨ad,cp,e15⟩:=hg 15 (BB rfl) Za Za;have rf:=hz0.free;obtain⟨r0,r1,r2,r3,r4,r5,r6⟩:=lN hz0;have R7:=(Tm (v0:=.string (BS B.os (x.ws k).kind (x.ws k).name B.on).kind) (v1:=.string (BS B.os (x.ws k).kind (x.ws k).name B.on).name) (v2:=.int .i64 (BS B.os (x.ws k).kind (x.ws k).name B.on).ver) (v3:=.int .i64 (BS B.os (x.ws k).kind (x.ws k).name B.on).born) (v4:=.string (BS B.os (x.ws k).kind (x.ws k).name B.on).text) (v5:=.bool (BS B.os (x.ws k).kind (x.ws k).name B.on).ending) (v6:=.slice ad (BS B.os (x.ws k).kind (x.ws k).name B.on).hn cp) hz0).cell 2 Zb;simp only[A7,Ae,Af]at R7;have h:=hK (.tuple #[]) _ R7 (UB _ _ _ _ _ _ _);refine Ar rfl rfl ?_;have H:=Ag h;clear hK hg h R7;go_simp;simpa[AN,ez,e15]using H.out
 .intro t X z hb hg ez hz hzX hB;have h:=hQ t z X hb hzX hB;unfold Value.p at ez;rw[<-ez]at h;exact h
end Go.Proofs.YtofencldleijcaaGreat
