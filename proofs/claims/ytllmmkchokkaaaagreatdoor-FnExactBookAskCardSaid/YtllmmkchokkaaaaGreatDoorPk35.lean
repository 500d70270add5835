import Derived.Test.YtllmmkchokkaaaaGreatDoorPk19
import Derived.Test.YtllmmkchokkaaaaGreatDoorPk26
import Derived.Test.YtllmmkchokkaaaaGreatDoorPk33
import Derived.Test.YtllmmkchokkaaaaGreatDoorPk31
import Derived.Test.YtllmmkchokkaaaaGreatDoorPk25
set_option maxRecDepth 100000
set_option maxHeartbeats 8000000
namespace Go.Proofs.YtllmmkchokkaaaaGreatDoor
open Go.RowKit Go.Maps Go.Proofs.Tryz
theorem nF{P:Program}{id:Nat}{ops:Array Oper}{Q:Exit->Act->World->Prop}{a0:Act}{W:World}(hm:P.follows .mixedOrders=true) (n m:Nat)(mk:(Nat->Value)->Array Value) (t0:Nat->Value) (G:Nat->Value->Prop) (B0 B1:Nat->World->Prop)(hn:ops.size=n) (hmn:m+1<n) (hord:((List.range ops.size).all λi=>match ops[i]? with|some o=>o.after.all (λe=>!(Region.binds .any e)||decide (e.on<i))|none=>true)=true)(hbox:BU ops (m+1) m)(st0:∀z X Y,B0 z X->z<X.1.size->Below X.1.size X Y->B0 z Y) (st1:∀z X Y,B1 z X->z<X.1.size->Below X.1.size X Y->B1 z Y)(h0:a0=⟨mk t0,[]⟩)(sg:∀i,i<n->¬i=m->¬i=m+1->∀(t:Nat->Value) X K,Below W.1.size W X->(∀j,BU ops i j->¬j=m->¬j=m+1->G j (t j))->(∀v Y,G i v->Below X.1.size X Y->K ⟨mk (AF t i v),[]⟩ Y)->wpOp P ops Q i K ⟨mk t,[]⟩ X)(sa:∀(t:Nat->Value) X K,(∀Y,B0 X.1.size Y->Below X.1.size X Y->X.1.size<Y.1.size->K ⟨mk (AF t m (.p (X.1.size) 0)),[]⟩ Y)->wpOp P ops Q m K ⟨mk t,[]⟩ X)(ss:∀(t:Nat->Value) X K z,t m=.p z 0->B0 z X->z<X.1.size->(∀j,BU ops (m+1) j->¬j=m->¬j=m+1->G j (t j))->(∀v Y,B1 z Y->AP (λq=>q=z) X Y->K ⟨mk (AF t (m+1) v),[]⟩ Y)->wpOp P ops Q (m+1) K ⟨mk t,[]⟩ X)(hfin:∀t X z,Below W.1.size W X->(∀i,i<n->¬i=m->¬i=m+1->G i (t i))->t m=.p z 0->W.1.size<=z->z<X.1.size->B1 z X->Q .normal ⟨mk t,[]⟩ X):(Code.region id ops true).wp P Q a0 W:=by
 have hlt:∀i j,BU ops i j->i<n->j<i:=λi j hj hi=>by obtain⟨o,ho,e,he,hbd,rfl⟩:=hj;have h1:=BO.1 hord i (by rw[hn];simpa using hi);simp only[ho]at h1;have h2:=(Bn.1 h1) e he;rw[hbd]at h2;simpa using h2
 refine Mw hm n mk t0 (λf t X=>Below W.1.size W X/\(∀i,i<n->¬i=m->¬i=m+1->f i=true->G i (t i))/\(f m=true->∃z,t m=.p z 0/\W.1.size<=z/\z<X.1.size/\(f (m+1)=false->B0 z X)/\(f (m+1)=true->B1 z X))/\(f (m+1)=true->f m=true)) hn hord h0 ?_ ?_ ?_;.intro f hf;exact⟨(Ak _ _).drew,λi _ _ _ h=>by(rw[hf]at h;cases h),λh=>by(rw[hf]at h;cases h),λh=>by(rw[hf]at h;cases h)⟩
 .rintro i hi f t X K ⟨hA,hG,hZ,hM⟩ hfi hwi hcl hK;by_cases e1:i=m
  .subst e1;have hf1:f (i+1)=false:=by cases hx:f (i+1)with
    |false=>rfl
    |true=>rw[hM hx]at hfi;cases hfi
   refine sa t X K (λY hB hbY hlY=>hK _ Y (λg hgi hgj=>⟨hA.trans (hbY.mono hA.size),λj hj h1 h2 hg=>?_,λ_=>⟨X.1.size,by rw[Ce],hA.size,hlY,λ_=>hB,λh=>?_⟩,λ_=>hgi⟩))
   .rw[AK h1];rw[hgj j h1]at hg;exact hG j hj h1 h2 hg
   .rw[hgj _ Za,hf1]at h;cases h
  .by_cases e2:i=m+1
   .subst e2;obtain⟨z,ez,hz,hzX,hb0,_⟩:=hZ (hwi m hbox);refine ss t X K z ez (hb0 hfi) hzX (λj hj h1 h2=>hG j (by have:=hlt _ j hj hi;omega) h1 h2 (hwi j hj)) (λv Y hB hfY=>hK v Y (λg hgi hgj=>⟨hA.trans (hfY.below (λq hq e=>by have e':q=z:=e;omega) hA.size),λj hj h1 h2 hg=>?_,λ_=>⟨z,by rw[AK Za];exact ez,hz,Aa hzX hfY.size,λh=>by(rw[hgi]at h;cases h),λ_=>hB⟩,λ_=>by rw[hgj m Za];exact hwi m hbox⟩));rw[AK h2];rw[hgj j h2]at hg;exact hG j hj h1 h2 hg
   .refine sg i hi e1 e2 t X K hA (λj hj h1 h2=>hG j (by have:=hlt i j hj hi;omega) h1 h2 (hwi j hj)) (λv Y hv hbY=>hK v Y (λg hgi hgj=>⟨hA.trans (hbY.mono hA.size),λj hj h1 h2 hg=>?_,λhgm=>?_,λh=>?_⟩))
    .by_cases e:j=i;.subst e;rw[Ce];exact hv
     .rw[AK e];rw[hgj j e]at hg;exact hG j hj h1 h2 hg
    .rw[hgj m (λe=>e1 e.symm)]at hgm;obtain⟨z,ez,hz,hzX,hb0,hb1⟩:=hZ hgm;refine⟨z,by rw[AK (λe=>e1 e.symm)];exact ez,hz,Aa hzX hbY.size,λh=>?_,λh=>?_⟩;.rw[hgj _ (λe=>e2 e.symm)]at h;exact st0 z X Y (hb0 h) hzX hbY
     .rw[hgj _ (λe=>e2 e.symm)]at h;exact st1 z X Y (hb1 h) hzX hbY
    .rw[hgj _ (λe=>e2 e.symm)]at h;rw[hgj m (λe=>e1 e.symm)];exact hM h
 .rintro f t X hf ⟨hA,hG,hZ,_⟩;obtain⟨z,ez,hz,hzX,_,hb1⟩:=hZ (hf m Za);exact hfin t X z hA (λi hi h1 h2=>hG i hi h1 h2 (hf i hi)) ez hz hzX (hb1 (hf _ Za))
def oI (C:Int) (Y:Bk) (V:Int) (n:Nat) (w:World) (e:Ending) (w':World):Prop:=Below w.1.size w w'/\∃(a1 a2 a3:OA) (c1 c2 c3:Nat),e=.returned (.tuple #[.agg #[.i C,.i Y.now,.i Y.floor,.l a1 Y.on c1,.l a2 Y.hn c2,.l a3 Y.tn c3,.i V],.i n])/\Bz w' 0 w'.1.size Y a1 a2 a3
structure A3 (W:World) (s0:Nat) (B:Bk) (a1 a2 a3:OA) (c1 c2 c3:Nat) (x:Bu) (u1 u2:OA) (d1 d2:Nat):Prop where
 bk:Cl W s0 (GB B a1 a2 a3 c1 c2 c3)bu:Cl W (s0+1) (XE x u1 u2 d1 d2)ans:Bx W (s0+1+1)bin:Bz W 0 s0 B a1 a2 a3
 uin:CG W 0 s0 x u1 u2
theorem A3.below{W W':World}{s0:Nat}{B:Bk}{a1 a2 a3:OA}{c1 c2 c3:Nat}{x:Bu}{u1 u2:OA}{d1 d2:Nat}(h:A3 W s0 B a1 a2 a3 c1 c2 c3 x u1 u2 d1 d2) (hb:Below W.1.size W W'):A3 W' s0 B a1 a2 a3 c1 c2 c3 x u1 u2 d1 d2:=by have hz:=h.ans.row.lt;exact⟨h.bk.below hb Za,h.bu.below hb Za,h.ans.grow hb,h.bin.below hb Za,h.uin.below hb Za⟩
theorem A3.frBox{W W':World}{s0:Nat}{B:Bk}{a1 a2 a3:OA}{c1 c2 c3:Nat}{x:Bu}{u1 u2:OA}{d1 d2:Nat}(h:A3 W s0 B a1 a2 a3 c1 c2 c3 x u1 u2 d1 d2){Z:Nat->Prop}(hf:AP Z W W') (hZ:∀q,Z q->s0+1+1<q):A3 W' s0 B a1 a2 a3 c1 c2 c3 x u1 u2 d1 d2:=by have hz:=h.ans.row.lt;have hB:Below (s0+1+1+1) W W':=hf.below (λq hq e=>by have:=hZ q e;omega) Za;exact⟨h.bk.below hB Za,h.bu.below hB Za,⟨h.ans.row.below hB Za,λj s e=>h.ans.no j s (by rw[<-hB.cell (p:=⟨s0+1+1,j,none⟩) (by show s0+1+1<_;omega)];exact e)⟩,h.bin.below hB Za,h.uin.below hB Za⟩
theorem cM (w:World) (B:Bk) (a1 a2 a3:OA) (c1 c2 c3:Nat) (x:Bu) (u1 u2:OA) (d1 d2:Nat) (hb:Bz w 0 w.1.size B a1 a2 a3) (hu:CG w 0 w.1.size x u1 u2):A3 (((w.alloc (.cells (vB B a1 a2 a3 c1 c2 c3) 35)).alloc (.cells (vU x u1 u2 d1 d2) 57)).alloc (.cells #[.i 0,.i 0,.i 0,.l none 0 0,.l none 0 0,.l none 0 0,.i 0] 37)) w.1.size B a1 a2 a3 c1 c2 c3 x u1 u2 d1 d2:=by
 obtain⟨X0,X1,X2,Y1,Y2⟩:=BE (Ak (((w.alloc (.cells (vB B a1 a2 a3 c1 c2 c3) 35)).alloc (.cells (vU x u1 u2 d1 d2) 57)).alloc (.cells #[.i 0,.i 0,.i 0,.l none 0 0,.l none 0 0,.l none 0 0,.i 0] 37)).1.size (((w.alloc (.cells (vB B a1 a2 a3 c1 c2 c3) 35)).alloc (.cells (vU x u1 u2 d1 d2) 57)).alloc (.cells #[.i 0,.i 0,.i 0,.l none 0 0,.l none 0 0,.l none 0 0,.i 0] 37)));have hB:Below w.1.size w (((w.alloc (.cells (vB B a1 a2 a3 c1 c2 c3) 35)).alloc (.cells (vU x u1 u2 d1 d2) 57)).alloc (.cells #[.i 0,.i 0,.i 0,.l none 0 0,.l none 0 0,.l none 0 0,.i 0] 37)):=(((Ak _ _).alloc Bj _).alloc Ze _).alloc Zd _;refine⟨λj hj=>?_,λj hj=>?_,by have:=UL ((w.alloc (.cells (vB B a1 a2 a3 c1 c2 c3) 35)).alloc (.cells (vU x u1 u2 d1 d2) 57));simpa using this,hb.below hB Bj,hu.below hB Bj⟩;.rw[X0 j];rcases(show j=0\/j=1\/j=2\/j=3\/j=4 by simp at hj;omega)with rfl|rfl|rfl|rfl|rfl<;>rfl
 .rw[X1 j];rcases(show j=0\/j=1 by simp at hj;omega)with rfl|rfl<;>rfl
theorem SZ{Q:Ending->World->Prop}{tmps:Array Value}{W:World}{b:Nat}{v0 v1 v2 v3 v4 v5 v6:Value}{n:Int}(hr:AH W b 7 (Bg [v0,v1,v2,v3,v4,v5,v6])) (h4:tmps[4]?.getD undef=.p b 0) (h5:tmps[5]?.getD undef=.i n) (hQ:Q (.returned (.tuple #[.agg #[v0,v1,v2,v3,v4,v5,v6],.i n])) W):bodyPost prog Tryz.f53 Q .ret ⟨tmps,[]⟩ W:=by obtain⟨u0,u1,u2,u3,u4,u5,u6⟩:=xQ hr;exact bodyPost_ret (v:=.tuple #[.agg #[v0,v1,v2,v3,v4,v5,v6],.i n]) (by simp only[results,results53];simp[go_sem,h4,h5,u0,u1,u2,u3,u4,u5,u6]) rfl hQ
theorem SM{y:Wt}(h:PB y=false):Bv y.kind=false\/(Bv y.kind=true/\Bv y.name=false)\/(Bv y.kind=true/\Bv y.name=true/\y.ver<0):=by unfold PB at h;cases h1:Bv y.kind with
 |false=>exact AD rfl
 |true=>cases h2:Bv y.name with
  |false=>exact Ax (AD ⟨rfl,rfl⟩)
  |true=>rw[h1,h2]at h;simp at h;exact Ax (Ax ⟨rfl,rfl,Za⟩)
theorem bC{x:Bu}(h:10<x.wn\/10<x.rn):K2 x=false:=by cases hb:K2 x with
 |false=>rfl
 |true=>have:=Gc hb;have:=this.wn;have:=(Gc hb).rn;omega
theorem jE{x:Bu}{k:Nat}(hk:k<x.wn) (h:PB (x.ws k)=false):K2 x=false:=by cases hb:K2 x with
 |false=>rfl
 |true=>rw[(Gc hb).ws k hk]at h;cases h
theorem aF{x:Bu}{k:Nat}(hk:k<x.rn) (h:Er (x.rs k)=false):K2 x=false:=by cases hb:K2 x with
 |false=>rfl
 |true=>rw[(Gc hb).rs k hk]at h;cases h
theorem hH{x:Bu}(h1:x.wn<=10) (h2:x.rn<=10) (h3:∀i,i<x.wn->PB (x.ws i)=true) (h4:∀i,i<x.rn->Er (x.rs i)=true):K2 x=true:=by unfold K2;simp[h1,h2,Bm.2 h3,Bm.2 h4]
def XM (B:Bk) (x:Bu) (w:World) (e:Ending) (w':World):Prop:=if K2 x then oI (BN B x) (AQ B x) (BW B x) (Jl B x) w e w' else oI 2 B 0 0 w e w'
theorem iO{B:Bk}{x:Bu}{w:World}{e:Ending}{w':World}(h:K2 x=false) (ha:oI 2 B 0 0 w e w'):XM B x w e w':=by unfold XM;rw[if_neg (by rw[h];decide)];exact ha
theorem Z2{P:Prop}(h:P:=by
  have zz:=HS.ans.row.lt;have zb:=HB.size;go_wp2;refine SZ (Qo HS.ans.row) rfl rfl (iO HN ⟨?_,a1,a2,a3,c1,c2,c3,rfl,?_⟩);.exact HB.trans ((UI (.i 2) (.i B.now) (.i B.floor) (.l a1 B.on c1) (.l a2 B.hn c2) (.l a3 B.tn c3) (.i 0)).below (λq hq e=>by have e':q=w.1.size+1+1:=e;omega) zb)
  .exact((HS.bin.below ((UI (.i 2) (.i B.now) (.i B.floor) (.l a1 B.on c1) (.l a2 B.hn c2) (.l a3 B.tn c3) (.i 0)).below (B:=w.1.size) (λq hq e=>by have e':q=w.1.size+1+1:=e;omega) zb) Bj)).upTo sK):P:=h
theorem rR (B:Bk) (x:Bu) (a1 a2 a3:OA) (c1 c2 c3:Nat) (u1 u2:OA) (d1 d2:Nat) (w:World) (hbk:Bz w 0 w.1.size B a1 a2 a3) (hbu:CG w 0 w.1.size x u1 u2) (h:10<x.wn\/10<x.rn):Calls prog 53 #[.agg (vB B a1 a2 a3 c1 c2 c3),.agg (vU x u1 u2 d1 d2)] w λe w'=>XM B x w e w':=by
 have HN:=Ai (bC h);have hs:=cM w B a1 a2 a3 c1 c2 c3 x u1 u2 d1 d2 hbk hbu;have hb:=(((Ak w.1.size w).alloc Bj (.cells (vB B a1 a2 a3 c1 c2 c3) 35)).alloc Ze (.cells (vU x u1 u2 d1 d2) 57)).alloc Zd (.cells #[.i 0,.i 0,.i 0,.l none 0 0,.l none 0 0,.l none 0 0,.i 0] 37);go_enter func53,ntmps53;go_upto_region 1 with fail;generalize(((w.alloc (.cells (vB B a1 a2 a3 c1 c2 c3) 35)).alloc (.cells (vU x u1 u2 d1 d2) 57)).alloc (.cells #[.i 0,.i 0,.i 0,.l none 0 0,.l none 0 0,.l none 0 0,.i 0] 37))=W1 at hs hb⊢;have HS:=Ai hs;have HB:=Ai hb;clear hs hb hbk hbu;have p0:=HS.bk 0 Ze;have p1:=HS.bk 1 Ze;have p2:=HS.bk 2 Ze;have p3:=HS.bk 3 Ze;have p4:=HS.bk 4 Ze;have q0:=HS.bu 0 Ze;have q1:=HS.bu 1 Ze;have r0:=HS.ans.row.cell 0 Za;have r1:=HS.ans.row.cell 1 Za;have r2:=HS.ans.row.cell 2 Za;have r3:=HS.ans.row.cell 3 Za;have r4:=HS.ans.row.cell 4 Za;have r5:=HS.ans.row.cell 5 Za;have r6:=HS.ans.row.cell 6 Za;have rf:=HS.ans.row.free;have rz:=HS.ans.row.lt;simp only[Bg,YS,Af,Ag]at p0 p1 p2 p3 p4 q0 q1 r0 r1 r2 r3 r4 r5 r6;by_cases hw:10<x.wn;.exact Z2
 .have hr:10<x.rn:=h.resolve_left hw;exact Z2
end Go.Proofs.YtllmmkchokkaaaaGreatDoor
