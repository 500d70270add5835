import Derived.Test.YtnnjcenacidceaaPk01
import Derived.Orders
set_option maxRecDepth 100000
set_option maxHeartbeats 2000000
namespace Go.Proofs.Ytnnjcenacidceaa
open Go.RowKit Go.Proofs.Try
theorem Ye{P:Program}{ops:Array Oper}{Q:Exit->Act->World->Prop}{i:Nat}{K K':Act->World->Prop}{a:Act}{w:World}(h:∀a w,K a w->K' a w)(hh:wpOp P ops Q i K a w):wpOp P ops Q i K' a w:=by
 unfold wpOp at*;split at hh;.exact h _ _ hh
 .split at hh;.next hw=>
   rw[if_pos hw];rcases hh with hh|hh;.exact AA (Oper.wp_mono h hh)
   .exact AC hh
  .next hw=>rw[if_neg hw];exact h _ _ hh
def YP (l:Array Bool):Nat->Nat
 |0=>0
 |n+1=>YP l n+(if l.getD n true then 0 else 1)
theorem BT{l:Array Bool}{i j:Nat}(hi:i<l.size)(d:Bool):(l.setIfInBounds i true).getD j d=if j=i then true else l.getD j d:=by
 by_cases h:j=i;.subst h;simp[Array.getD,hi]
 .rw[if_neg h,Array.getD_eq_getD_getElem?,Array.getD_eq_getD_getElem?,Array.getElem?_setIfInBounds,if_neg (λe=>h e.symm)]
theorem XB{l:Array Bool}{i:Nat}(hi:i<l.size):∀n,YP (l.setIfInBounds i true) n<=YP l n
 |0=>AD _
 |n+1=>by
  unfold YP;have h:=XB hi n;rw[BT hi];by_cases e:n=i;.rw[if_pos e];simp;split<;>omega
  .rw[if_neg e];omega
theorem We{l:Array Bool}{i:Nat}(hi:i<l.size)(h0:l.getD i true=false):∀n,i<n->YP (l.setIfInBounds i true) n<YP l n
 |0,h=>absurd h (Aj _)
 |n+1,h=>by
  unfold YP;rw[BT hi];by_cases e:n=i;.subst e;have:=XB hi n;rw[if_pos rfl,h0];simp;omega
  .have:=We hi h0 n Za;rw[if_neg e];omega
theorem QW{l:Array Bool}:∀{n:Nat},YP l n=0->∀i,i<n->l.getD i true=true
 |0,_,i,h=>absurd h (Aj _)
 |n+1,h0,i,h=>by
  unfold YP at h0;by_cases e:i=n;.subst e;cases hg:l.getD i true with
   |true=>rfl
   |false=>rw[hg]at h0;simp at h0
  .exact QW (n:=n) Za i Za
theorem WG (l:Array Bool):∀n,YP l n<=n
 |0=>AD _
 |n+1=>by unfold YP;have:=WG l n;split<;>omega
theorem SJ{P:Program}{md:Region.Mode}{ops:Array Oper}{Q:Exit->Act->World->Prop}(Inv:Array Bool->Act->World->Prop)(hsz:∀l a w,Inv l a w->l.size=ops.size)(hdone:∀l a w,Inv l a w->Region.ready md ops l=[]->Q .normal a w)(hstep:∀l a w i,Inv l a w->i∈Region.ready md ops l->wpOp P ops Q i (Inv (l.setIfInBounds i true)) a w):∀fuel l a w,Inv l a w->YP l ops.size<=fuel->wpAny P md ops Q fuel l a w
 |0,l,a,w,hI,hc=>by
  have hr:Region.ready md ops l=[]:=by
   rw[List.eq_nil_iff_forall_not_mem];intro i hi;have h1:=(Dv.1 hi);have h2:i<ops.size:=by simpa using h1.1
   have h3:=h1.2;rw[QW Za i h2]at h3;simp at h3
  exact⟨hr,hdone l a w hI hr⟩
 |fuel+1,l,a,w,hI,hc=>by
  refine⟨λhr=>hdone l a w hI hr,λi hi=>?_⟩;have h1:=(Dv.1 hi);have h2:i<ops.size:=by simpa using h1.1
  have h3:l.getD i true=false:=by have h4:=h1.2;simp only[Al]at h4;simpa using h4.1
  have hs:=hsz l a w hI;have h5:=We (l:=l) (i:=i) Za h3 ops.size h2;exact Ye (λa' w' hI'=>SJ Inv hsz hdone hstep fuel _ a' w' hI' Za) (hstep l a w i hI hi)
theorem Cs{P:Program}{id:Nat}{ops:Array Oper}{Q:Exit->Act->World->Prop}{a:Act}{w:World}(hm:P.follows .mixedOrders=true)(Inv:Array Bool->Act->World->Prop)(h0:Inv (Array.replicate ops.size false) a w.drew)(hsz:∀l a w,Inv l a w->l.size=ops.size)(hdone:∀l a w,Inv l a w->Region.ready .any ops l=[]->Q .normal a w)(hstep:∀l a w i,Inv l a w->i∈Region.ready .any ops l->wpOp P ops Q i (Inv (l.setIfInBounds i true)) a w):(Code.region id ops true).wp P Q a w:=wp_region_any hm (SJ Inv hsz hdone hstep _ _ _ _ h0 (WG _ _))
theorem KJ{ops:Array Oper}{l:Array Bool}(hord:((List.range ops.size).all λi=>match ops[i]? with|some o=>o.after.all (λe=>decide (e.on<i))|none=>true)=true)(hs:l.size=ops.size)(hr:Region.ready .any ops l=[]):∀i,i<ops.size->l.getD i false=true:=by
 have conv:∀i,i<ops.size->l.getD i true=l.getD i false:=λi hi=>by simp[Array.getD,hs,hi]
 intro i;induction i using Nat.strongRecOn with
 |_ i ih=>intro hi;cases hg:l.getD i false with
  |true=>rfl
  |false=>
   have hm:i∈Region.ready .any ops l:=by
    rw[mem_ready];refine⟨(conv i hi).trans hg,ops[i],by simp[hi],λe he _=>?_⟩;have h1:=AZ.1 hord i (by simpa using hi);simp only[Kz hi]at h1;have h2:=(AU.1 h1) e he;have h3:e.on<i:=by simpa using h2
    exact ih e.on h3 Za
   rw[hr]at hm;cases hm
theorem Ag{P:Program}{ops:Array Oper}{Q:Exit->Act->World->Prop}{i:Nat}{K:Act->World->Prop}{a:Act}{w:World}{o:Oper}(ho:ops[i]?=some o)(hg:o.guard=none)(h:o.wp P a w K Q):wpOp P ops Q i K a w:=by unfold wpOp;rw[ho];simp only[Region.wanted,hg,if_true];exact AA h
theorem Rc (a:ByteArray)(w:World):Calls prog 99 #[.s a] w λe w'=>e=.returned (.bool false)/\w'=w:=by go_enter func99,ntmps99;go_wp2;go_ret;exact⟨rfl,rfl⟩
def Lw (a b:ByteArray):Int:=if KW a b then-1 else if a.toList=b.toList then 0 else 1
theorem cE{P:Prop}(h:P:=by clear h2;go_enter func98,ntmps98;go_wp2_with (go_at_call 99;refine(Rc _ _).mono ?_;rintro e w1 ⟨rfl,rfl⟩);go_ret;exact⟨MF HE.symm,rfl⟩):P:=h
theorem PU (a b:ByteArray)(w:World):Calls prog 98 #[.s a,.s b] w λe w'=>e=.returned (.i (Lw a b))/\w'=w:=by cases h1:KW a b with
 |true=>have h1':Op.bytesLess a.toList b.toList=true:=h1;go_enter func98,ntmps98;go_wp2_with (go_at_call 99;refine(Rc _ _).mono ?_;rintro e w1 ⟨rfl,rfl⟩);go_ret;exact⟨MF (by unfold Lw;rw[h1];rfl),rfl⟩
 |false=>
  have h1':Op.bytesLess a.toList b.toList=false:=h1;by_cases h2:a.toList=b.toList
  .have h2':(a.toList==b.toList)=true:=by simp[h2]
   have HE:=Ah (show Lw a b=0 by unfold Lw;rw[h1,if_pos h2];rfl);exact cE
  .have h2':(a.toList==b.toList)=false:=by simp[h2]
   have HE:=Ah (show Lw a b=1 by unfold Lw;rw[h1,if_neg h2];rfl);exact cE
def l9 (k1 k2:Int):Int:=if k1=0 then k2 else k1
theorem pM (k1 k2:Int)(b cap:Nat)(w:World)(h1:w.cell? ⟨b,0,none⟩=some (.i k1))(h2:w.cell? ⟨b,1,none⟩=some (.i k2)):Calls prog 97 #[.l (some ⟨b,0,none⟩) 2 cap] w λe w'=>e=.returned (.i (l9 k1 k2))/\w'=w:=by
 go_enter func97,ntmps97;go_wp2;go_loopw[8](λi wr=>wr=w/\((i=.i 0)\/(i=.i 1/\k1=0)\/(i=.i 2/\k1=0/\k2=0)))(λi _=>2-(intOf i).toNat);case atStart=>exact⟨rfl,AA rfl⟩
 case round=>
  obtain⟨rfl,rfl|⟨rfl,e1⟩|⟨rfl,e1,e2⟩⟩:=hrel
  .by_cases e:k1=0
   .subst e;go_wp2;go_roundw;case rel=>exact⟨by first|rfl|trivial,AC (AA ⟨by go_num,by first|rfl|trivial⟩)⟩
    case measure=>simp[intOf]
   .have eb:(k1 !=0)=true:=by simp[e]
    have HE:=Ah (show l9 k1 k2=k1 from if_neg e);go_wp2;go_ret;exact⟨MF HE.symm,rfl⟩
  .subst e1;by_cases e:k2=0
   .subst e;go_wp2;go_roundw;case rel=>exact⟨by first|rfl|trivial,AC (AC ⟨by go_num,by first|rfl|trivial,by first|rfl|trivial⟩)⟩
    case measure=>simp[intOf]
   .have eb:(k2 !=0)=true:=by simp[e]
    have HE:=Ah (show l9 0 k2=k2 from if_pos rfl);go_wp2;go_ret;exact⟨MF HE.symm,rfl⟩
  .subst e1 e2;go_wp2;go_ret;exact⟨MF rfl,rfl⟩
def E7 (w0:World)(k1 n1 ki na:ByteArray)(l:Array Bool)(a:Act)(w:World):Prop:=∃(t4 t5 t6 t7 t8 t9 t10 t11 t12 t13 t14 t15 t16:Value),a=⟨#[.agg #[.s k1,.s n1],.agg #[.s ki,.s na],.p (w0.1.size) 0,.p (w0.1.size+1) 0,t4,t5,t6,t7,t8,t9,t10,t11,t12,t13,t14,t15,t16],[]⟩/\l.size=13/\(l.getD 0 false=true->t5=.p (w0.1.size) 0)/\(l.getD 1 false=true->t6=.s k1)/\(l.getD 2 false=true->t7=.p (w0.1.size+1) 0)/\(l.getD 3 false=true->t8=.s ki)/\(l.getD 4 false=true->t9=.i (Lw k1 ki))/\(l.getD 5 false=true->t10=.p (w0.1.size) 1)/\(l.getD 6 false=true->t11=.s n1)/\(l.getD 7 false=true->t12=.p (w0.1.size+1) 1)/\(l.getD 8 false=true->t13=.s na)/\(l.getD 9 false=true->t14=.i (Lw n1 na))/\(l.getD 10 false=true->t15=.l (some ⟨w0.1.size+1+1,0,none⟩) 2 2/\w=(((w0.alloc (.cells #[.s k1,.s n1] 82)).alloc (.cells #[.s ki,.s na] 82)).drew.alloc (.cells #[.i (Lw k1 ki),.i (Lw n1 na)] 3)))/\(l.getD 11 false=true->t16=.i (l9 (Lw k1 ki) (Lw n1 na)))/\(l.getD 12 false=true->t4=.i (l9 (Lw k1 ki) (Lw n1 na)))/\(l.getD 10 false=false->w=((w0.alloc (.cells #[.s k1,.s n1] 82)).alloc (.cells #[.s ki,.s na] 82)).drew)
theorem V1 (k1 n1 ki na:ByteArray)(w:World):Calls prog 89 #[.agg #[.s k1,.s n1],.agg #[.s ki,.s na]] w λe w'=>e=.returned (.i (l9 (Lw k1 ki) (Lw n1 na)))/\Below w.1.size w w':=by
 go_enter func89,ntmps89;go_wp2;refine Cs Ze (E7 w k1 n1 ki na) ?_ ?_ ?_ ?_;.unfold E7;refine⟨_,_,_,_,_,_,_,_,_,_,_,_,_,rfl,Zc,?_⟩;simp
 .intro l a w' hI;obtain⟨t4,t5,t6,t7,t8,t9,t10,t11,t12,t13,t14,t15,t16,rfl,hls,_⟩:=hI;exact hls
 .intro l a w' hI hr;obtain⟨t4,t5,t6,t7,t8,t9,t10,t11,t12,t13,t14,t15,t16,rfl,hls,f0,f1,f2,f3,f4,f5,f6,f7,f8,f9,f10,f11,f12,f13⟩:=hI;have AL:=KJ Ze (by rw[hls];rfl) hr;obtain rfl:=f12 (AL 12 Zb);obtain rfl:=(f10 (AL 10 Zb)).2;clear f0 f1 f2 f3 f4 f5 f6 f7 f8 f9 f10 f11 f12 f13 AL hr hls;go_wp2;go_ret;exact⟨rfl,((((Am _ _).alloc Zc _).drew).alloc Zd _)⟩
 .intro l a w' i hI hr;obtain⟨t4,t5,t6,t7,t8,t9,t10,t11,t12,t13,t14,t15,t16,rfl,hls,f0,f1,f2,f3,f4,f5,f6,f7,f8,f9,f10,f11,f12,f13⟩:=hI;obtain⟨hu,o',ho,hdep⟩:=mem_ready.1 hr;have hi16:i<13:=by
   rcases Au i 13 with h|h;.exact h
   .rw[A9 (by simpa using h)]at ho;cases ho
  have kp:∀j,¬j=i->(l.setIfInBounds i true).getD j false=l.getD j false:=λj hj=>by rw[BT Za,if_neg hj]
  have ki':(l.setIfInBounds i true).getD i false=true:=by rw[BT Za,if_pos rfl]
  have hsz':(l.setIfInBounds i true).size=13:=by simp[hls]
  have hui:l.getD i false=false:=by simpa[Array.getD,hls,hi16]using hu
  have hcell:∀j,w'.cell? ⟨w.1.size,j,none⟩=(#[.s k1,.s n1]:Array Value)[j]?/\w'.cell? ⟨w.1.size+1,j,none⟩=(#[.s ki,.s na]:Array Value)[j]?:=λj=>by cases h10:l.getD 10 false with
   |false=>rw[f13 h10];simp
   |true=>
    rw[(f10 h10).2];refine⟨?_,?_⟩;.rw[Ap _ _ _ Zd];simp
    .rw[Ap _ _ _ Zc];simp
  have p0:=(hcell 0).1;have p1:=(hcell 1).1;have s0:=(hcell 0).2;have s1:=(hcell 1).2;simp only[Af,Ae,Ad]at p0 p1 s0 s1;clear hr hu hcell;rcases(show i=0\/i=1\/i=2\/i=3\/i=4\/i=5\/i=6\/i=7\/i=8\/i=9\/i=10\/i=11\/i=12 by omega)with rfl|rfl|rfl|rfl|rfl|rfl|rfl|rfl|rfl|rfl|rfl|rfl|rfl;.simp only[Af,Ad,AO]at ho;subst ho;clear hdep;refine Ag rfl rfl ?_;generalize hK:E7 w k1 n1 ki na (l.setIfInBounds 0 true)=K;go_simp;rw[<-hK];unfold E7;exact⟨t4,_,t6,t7,t8,t9,t10,t11,t12,t13,t14,t15,t16,rfl,hsz',(λ_=>rfl),Y8,Y4,YU,YW,YX,Y3,YV,Y7,YZ,Zx,Zy,Zz,ZA⟩
  .simp only[Af,Ae,Ad,AO]at ho;subst ho;have q0:l.getD 0 false=true:=hdep ⟨0,.data⟩ Zc rfl;clear hdep;obtain rfl:=f0 q0;refine Ag rfl rfl ?_;generalize hK:E7 w k1 n1 ki na (l.setIfInBounds 1 true)=K;go_simp;rw[<-hK];unfold E7;exact⟨t4,_,_,t7,t8,t9,t10,t11,t12,t13,t14,t15,t16,rfl,hsz',YY,(λ_=>rfl),Y4,YU,YW,YX,Y3,YV,Y7,YZ,Zx,Zy,Zz,ZA⟩
  .simp only[Af,Ae,Ad,AO]at ho;subst ho;clear hdep;refine Ag rfl rfl ?_;generalize hK:E7 w k1 n1 ki na (l.setIfInBounds 2 true)=K;go_simp;rw[<-hK];unfold E7;exact⟨t4,t5,t6,_,t8,t9,t10,t11,t12,t13,t14,t15,t16,rfl,hsz',YY,Y8,(λ_=>rfl),YU,YW,YX,Y3,YV,Y7,YZ,Zx,Zy,Zz,ZA⟩
  .simp only[Af,Ae,Ad,AO]at ho;subst ho;have q2:l.getD 2 false=true:=hdep ⟨2,.data⟩ Zc rfl;clear hdep;obtain rfl:=f2 q2;refine Ag rfl rfl ?_;generalize hK:E7 w k1 n1 ki na (l.setIfInBounds 3 true)=K;go_simp;rw[<-hK];unfold E7;exact⟨t4,t5,t6,_,_,t9,t10,t11,t12,t13,t14,t15,t16,rfl,hsz',YY,Y8,Y4,(λ_=>rfl),YW,YX,Y3,YV,Y7,YZ,Zx,Zy,Zz,ZA⟩
  .simp only[Af,Ae,Ad,AO]at ho;subst ho;have q1:l.getD 1 false=true:=hdep ⟨1,.data⟩ Zc rfl;have q3:l.getD 3 false=true:=hdep ⟨3,.data⟩ Zc rfl;clear hdep;obtain rfl:=f1 q1;obtain rfl:=f3 q3;refine Ag rfl rfl ?_;generalize hK:E7 w k1 n1 ki na (l.setIfInBounds 4 true)=K;go_simp;go_at_call 98;refine(PU _ _ _).mono ?_;rintro e w1 ⟨rfl,rfl⟩;rw[<-hK];unfold E7;exact⟨t4,t5,_,t7,_,_,t10,t11,t12,t13,t14,t15,t16,rfl,hsz',YY,Y8,Y4,YU,(λ_=>rfl),YX,Y3,YV,Y7,YZ,Zx,Zy,Zz,ZA⟩
  .simp only[Af,Ae,Ad,AO]at ho;subst ho;clear hdep;refine Ag rfl rfl ?_;generalize hK:E7 w k1 n1 ki na (l.setIfInBounds 5 true)=K;go_simp;rw[<-hK];unfold E7;exact⟨t4,t5,t6,t7,t8,t9,_,t11,t12,t13,t14,t15,t16,rfl,hsz',YY,Y8,Y4,YU,YW,(λ_=>rfl),Y3,YV,Y7,YZ,Zx,Zy,Zz,ZA⟩
  .simp only[Af,Ae,Ad,AO]at ho;subst ho;have q5:l.getD 5 false=true:=hdep ⟨5,.data⟩ Zc rfl;clear hdep;obtain rfl:=f5 q5;refine Ag rfl rfl ?_;generalize hK:E7 w k1 n1 ki na (l.setIfInBounds 6 true)=K;go_simp;rw[<-hK];unfold E7;exact⟨t4,t5,t6,t7,t8,t9,_,_,t12,t13,t14,t15,t16,rfl,hsz',YY,Y8,Y4,YU,YW,YX,(λ_=>rfl),YV,Y7,YZ,Zx,Zy,Zz,ZA⟩
  .simp only[Af,Ae,Ad,AO]at ho;subst ho;clear hdep;refine Ag rfl rfl ?_;generalize hK:E7 w k1 n1 ki na (l.setIfInBounds 7 true)=K;go_simp;rw[<-hK];unfold E7;exact⟨t4,t5,t6,t7,t8,t9,t10,t11,_,t13,t14,t15,t16,rfl,hsz',YY,Y8,Y4,YU,YW,YX,Y3,(λ_=>rfl),Y7,YZ,Zx,Zy,Zz,ZA⟩
  .simp only[Af,Ae,Ad,AO]at ho;subst ho;have q7:l.getD 7 false=true:=hdep ⟨7,.data⟩ Zc rfl;clear hdep;obtain rfl:=f7 q7;refine Ag rfl rfl ?_;generalize hK:E7 w k1 n1 ki na (l.setIfInBounds 8 true)=K;go_simp;rw[<-hK];unfold E7;exact⟨t4,t5,t6,t7,t8,t9,t10,t11,_,_,t14,t15,t16,rfl,hsz',YY,Y8,Y4,YU,YW,YX,Y3,YV,(λ_=>rfl),YZ,Zx,Zy,Zz,ZA⟩
  .simp only[Af,Ae,Ad,AO]at ho;subst ho;have q6:l.getD 6 false=true:=hdep ⟨6,.data⟩ Zc rfl;have q8:l.getD 8 false=true:=hdep ⟨8,.data⟩ Zc rfl;clear hdep;obtain rfl:=f6 q6;obtain rfl:=f8 q8;refine Ag rfl rfl ?_;generalize hK:E7 w k1 n1 ki na (l.setIfInBounds 9 true)=K;go_simp;go_at_call 98;refine(PU _ _ _).mono ?_;rintro e w1 ⟨rfl,rfl⟩;rw[<-hK];unfold E7;exact⟨t4,t5,t6,t7,t8,t9,t10,_,t12,_,_,t15,t16,rfl,hsz',YY,Y8,Y4,YU,YW,YX,Y3,YV,Y7,(λ_=>rfl),Zx,Zy,Zz,ZA⟩
  .simp only[Af,Ae,Ad,AO]at ho;subst ho;have q4:l.getD 4 false=true:=hdep ⟨4,.data⟩ Zc rfl;have q9:l.getD 9 false=true:=hdep ⟨9,.data⟩ Zc rfl;clear hdep;obtain rfl:=f4 q4;obtain rfl:=f9 q9;obtain rfl:=f13 hui;refine Ag rfl rfl ?_;generalize hK:E7 w k1 n1 ki na (l.setIfInBounds 10 true)=K;go_simp;rw[<-hK];unfold E7;exact⟨t4,t5,t6,t7,t8,_,t10,t11,t12,t13,_,_,t16,rfl,hsz',YY,Y8,Y4,YU,YW,YX,Y3,YV,Y7,YZ,(λ_=>⟨Zc,rfl⟩),Zy,Zz,(λh=>absurd (ki'.symm.trans h) Zb)⟩
  .simp only[Af,Ae,Ad,AO]at ho;subst ho;have q10:l.getD 10 false=true:=hdep ⟨10,.data⟩ Zc rfl;clear hdep;obtain⟨rfl,rfl⟩:=f10 q10;refine Ag rfl rfl ?_;generalize hK:E7 w k1 n1 ki na (l.setIfInBounds 11 true)=K;go_simp;go_at_call 97;refine(pM (Lw k1 ki) (Lw n1 na) _ _ _ (by have h:=Ak ((w.alloc (.cells #[.s k1,.s n1] 82)).alloc (.cells #[.s ki,.s na] 82)) #[.i (Lw k1 ki),.i (Lw n1 na)] 3 0;simpa using h) (by have h:=Ak ((w.alloc (.cells #[.s k1,.s n1] 82)).alloc (.cells #[.s ki,.s na] 82)) #[.i (Lw k1 ki),.i (Lw n1 na)] 3 1;simpa using h)).mono ?_;rintro e w1 ⟨rfl,rfl⟩;rw[<-hK];unfold E7;exact⟨t4,t5,t6,t7,t8,t9,t10,t11,t12,t13,t14,_,_,rfl,hsz',YY,Y8,Y4,YU,YW,YX,Y3,YV,Y7,YZ,Zx,(λ_=>rfl),Zz,ZA⟩
  .simp only[Af,Ae,Ad,AO]at ho;subst ho;have q11:l.getD 11 false=true:=hdep ⟨11,.data⟩ Zc rfl;clear hdep;obtain rfl:=f11 q11;refine Ag rfl rfl ?_;generalize hK:E7 w k1 n1 ki na (l.setIfInBounds 12 true)=K;go_simp;rw[<-hK];unfold E7;exact⟨_,t5,t6,t7,t8,t9,t10,t11,t12,t13,t14,t15,_,rfl,hsz',YY,Y8,Y4,YU,YW,YX,Y3,YV,Y7,YZ,Zx,Zy,(λ_=>rfl),ZA⟩
def Av (t:Nat->Value)(i:Nat)(v:Value):Nat->Value:=λj=>bif j==i then v else t j
theorem BB{t:Nat->Value}{i j:Nat}{v:Value}(h:¬j=i):Av t i v j=t j:=by
 have:(j==i)=false:=by simpa using h
 simp[Av,this]
theorem Bp{t:Nat->Value}{i:Nat}{v:Value}:Av t i v i=v:=by simp[Av]
def BE (ops:Array Oper)(i j:Nat):Prop:=∃o,ops[i]?=some o/\∃e∈o.after,Region.binds .any e=true/\e.on=j
theorem AQ{ops:Array Oper}{i j:Nat}(h:(match ops[i]? with|some o=>o.after.toList.any (λe=>Region.binds .any e&&e.on==j)|none=>false)=true):BE ops i j:=by cases ho:ops[i]? with
 |none=>rw[ho]at h;cases h
 |some o=>rw[ho]at h;obtain⟨e,he,h2⟩:=List.any_eq_true.1 h;simp only[Al,beq_iff_eq]at h2;exact⟨o,ho,e,by simpa using he,h2.1,h2.2⟩
theorem sg{P:Prop}(h:P:=by have h:=hK _ X rfl EF;refine Ag rfl rfl ?_;clear hK hg;go_simp;first|simpa[Av,ea,eb,ec,ed,ee]using h|simpa[Av,ea,eb,ec,ed]using h|simpa[Av,ea,eb,ec]using h|simpa[Av,ea,eb]using h|simpa[Av,ea]using h|simpa[Av]using h):P:=h
def RG (n:Nat)(mk:(Nat->Value)->Array Value)(W:World)(G:Nat->Value->World->Prop)(Fin:Act->World->Prop)(l:Array Bool)(a:Act)(X:World):Prop:=l.size=n+1/\((l.getD n false=true->(∀i,i<n+1->l.getD i false=true)/\Fin a X)/\(l.getD n false=false->∃t:Nat->Value,a=⟨mk t,[]⟩/\Below W.1.size W X/\∀i,i<n->l.getD i false=true->G i (t i) X))
theorem QI{P:Program}{id:Nat}{ops:Array Oper}{Q:Exit->Act->World->Prop}{a0:Act}{W:World}(hm:P.follows .mixedOrders=true)(n:Nat)(mk:(Nat->Value)->Array Value)(t0:Nat->Value)(G:Nat->Value->World->Prop)(Fin:Act->World->Prop)(hn:ops.size=n+1)(hord:((List.range ops.size).all λi=>match ops[i]? with|some o=>o.after.all (λe=>decide (e.on<i))|none=>true)=true)(hlast:((List.range n).all λj=>match ops[n]? with|some o=>o.after.any (λe=>Region.binds .any e&&e.on==j)|none=>false)=true)(st:∀i v X Y,i<n->G i v X->Below X.1.size X Y->G i v Y)(h0:a0=⟨mk t0,[]⟩)(sg:∀i,i<n->∀(t:Nat->Value) X K,Below W.1.size W X->(∀j,BE ops i j->G j (t j) X)->(∀v Y,G i v Y->Below X.1.size X Y->K ⟨mk (Av t i v),[]⟩ Y)->wpOp P ops Q i K ⟨mk t,[]⟩ X)(sl:∀(t:Nat->Value) X K,Below W.1.size W X->(∀j,j<n->G j (t j) X)->(∀a Y,Fin a Y->K a Y)->wpOp P ops Q n K ⟨mk t,[]⟩ X)(hfin:∀a X,Fin a X->Q .normal a X):(Code.region id ops true).wp P Q a0 W:=by
 have hdep:∀i j,i<n+1->BE ops i j->j<n:=by rintro i j hi ⟨o,ho,e,he,_,rfl⟩;have h1:=AZ.1 hord i (Bd.2 Za);rw[ho]at h1;have h2:=AU.1 h1 e he;have:=of_decide_eq_true h2;omega
 refine Cs hm (RG n mk W G Fin) ?_ ?_ ?_ ?_
 .have hz:∀i,(Array.replicate ops.size false).getD i false=false:=λi=>by simp[Array.getD]
  refine⟨by simp[hn],λh=>?_,λ_=>⟨t0,h0,(Ao _ _).drew,λi _ h=>?_⟩⟩<;>(rw[hz]at h;cases h)
 .rintro l a X ⟨hs,_⟩;rw[hs,hn]
 .rintro l a X ⟨hs,h6,_⟩ hr;have AL:=KJ hord (by rw[hs,hn]) hr;exact hfin a X (h6 (AL n Za)).2
 .rintro l a X i ⟨hs,h6,hg⟩ hr;obtain⟨hu,o,ho,hall⟩:=mem_ready.1 hr;have di:∀j,BE ops i j->l.getD j false=true:=by
   rintro j ⟨o',ho',e,he,hb,rfl⟩;rw[ho]at ho';obtain rfl:o=o':=by simpa using ho'
   exact hall e he hb
  have hi7:i<n+1:=by
   rcases Au i (n+1)with h|h;.exact h
   .rw[A9 Za]at ho;cases ho
  have hui:l.getD i false=false:=by have:l.getD i true=false:=hu;simpa[Array.getD,hs,hi7]using this
  have l6:l.getD n false=false:=by cases h:l.getD n false with
   |false=>rfl
   |true=>rw[(h6 h).1 i hi7]at hui;cases hui
  obtain⟨t,rfl,hb,gg⟩:=hg l6;have kp:∀j,¬j=i->(l.setIfInBounds i true).getD j false=l.getD j false:=λj hj=>by rw[BT Za,if_neg hj]
  have ki:(l.setIfInBounds i true).getD i false=true:=by rw[BT Za,if_pos rfl]
  have hs':(l.setIfInBounds i true).size=n+1:=by simp[hs]
  have ku:∀j,l.getD j false=true->(l.setIfInBounds i true).getD j false=true:=λj h=>by
   by_cases e:j=i;.subst e;exact ki
   .rw[kp j e];exact h
  by_cases hin:i=n
  .subst hin;have al:∀j,j<i->l.getD j false=true:=λj hj=>by have h1:=AZ.1 hlast j (Bd.2 hj);rw[ho]at h1;obtain⟨k,hk,h2⟩:=EY.1 h1;simp only[Al,beq_iff_eq]at h2;exact di j ⟨o,ho,o.after[k],EZ hk,h2.1,h2.2⟩
   clear hr hu ho h6 hg;refine sl t X _ hb (λj hj=>gg j hj (al j hj)) (λa Y hY=>⟨hs',λ_=>⟨λj hj=>?_,hY⟩,λh=>?_⟩)
   .by_cases e:j=i;.subst e;exact ki
    .exact ku j (al j Za)
   .rw[ki]at h;cases h
  .clear hr hu ho h6 hg;have hno:(l.setIfInBounds i true).getD n false=false:=by rw[kp n (λe=>hin e.symm)];exact l6
   refine sg i Za t X _ hb (λj hj=>gg j (hdep i j hi7 hj) (di j hj)) (λv Y hv hY=>⟨hs',λh=>?_,λ_=>⟨Av t i v,rfl,hb.trans (hY.mono hb.size),λj j1 h=>?_⟩⟩);.rw[hno]at h;cases h
   .by_cases e:j=i;.subst e;rw[Bp];exact hv
    .rw[kp j e]at h;rw[BB e];exact st _ _ _ _ j1 (gg j j1 h) hY
theorem T3{ops:Array Oper}{n:Nat}(hanc:((List.range n).all λj=>(List.range (n+1)).any λk=>match ops[k]? with|some o=>decide (j<k)&&o.after.any (λe=>Region.binds .any e&&e.on==j)|none=>false)=true){f:Nat->Prop}(hcl:∀i j,BE ops i j->f i->f j)(hn:∀j,BE ops n j->f j):∀m j,n<=j+m->j<n->f j
 |0,j,h,hj=>by omega
 |m+1,j,h,hj=>by have h1:=AZ.1 hanc j (Bd.2 hj);obtain⟨k,hk,h2⟩:=List.any_eq_true.1 h1;have hk':=Bd.1 hk;cases ho:ops[k]? with
  |none=>rw[ho]at h2;cases h2
  |some o=>
   rw[ho]at h2;simp only[Al,decide_eq_true_eq]at h2;obtain⟨q,hq,h3⟩:=EY.1 h2.2;simp only[Al,beq_iff_eq]at h3;have hw:BE ops k j:=⟨o,ho,o.after[q],EZ hq,h3.1,h3.2⟩;by_cases hkn:k=n;.subst hkn;exact hn j hw
   .exact hcl k j hw (T3 hanc hcl hn m k Za Za)
end Go.Proofs.Ytnnjcenacidceaa
