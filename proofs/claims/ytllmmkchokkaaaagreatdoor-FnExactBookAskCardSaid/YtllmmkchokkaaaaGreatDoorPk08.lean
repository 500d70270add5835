import Derived.Test.YtllmmkchokkaaaaGreatDoorPk04
import Derived.Orders
import Derived.Test.YtllmmkchokkaaaaGreatDoorPk05
import Derived.Deep.QuietTactic
import Derived.BigQuiet
import Derived.Test.YtllmmkchokkaaaaGreatDoorPk06
set_option maxRecDepth 100000
set_option maxHeartbeats 2000000
namespace Go.Proofs.YtllmmkchokkaaaaGreatDoor
open Go.RowKit Go.Proofs.Tryz
theorem Xx{P:Program}{ops:Array Oper}{Q:Exit->Act->World->Prop}{i:Nat}{K K':Act->World->Prop}{a:Act}{w:World}(h:∀a w,K a w->K' a w)(hh:wpOp P ops Q i K a w):wpOp P ops Q i K' a w:=by
 unfold wpOp at*;split at hh;.exact h _ _ hh
 .split at hh;.next hw=>
   rw[if_pos hw];rcases hh with hh|hh;.exact AD (Oper.wp_mono h hh)
   .exact Ax hh
  .next hw=>rw[if_neg hw];exact h _ _ hh
def YK (l:Array Bool):Nat->Nat
 |0=>0
 |n+1=>YK l n+(if l.getD n true then 0 else 1)
theorem Dr{l:Array Bool}{i j:Nat}(hi:i<l.size)(d:Bool):(l.setIfInBounds i true).getD j d=if j=i then true else l.getD j d:=by
 by_cases h:j=i;.subst h;simp[Array.getD,hi]
 .rw[if_neg h,Array.getD_eq_getD_getElem?,Array.getD_eq_getD_getElem?,Array.getElem?_setIfInBounds,if_neg (λe=>h e.symm)]
theorem Wo{l:Array Bool}{i:Nat}(hi:i<l.size):∀n,YK (l.setIfInBounds i true) n<=YK l n
 |0=>Aw _
 |n+1=>by
  unfold YK;have h:=Wo hi n;rw[Dr hi];by_cases e:n=i;.rw[if_pos e];simp;split<;>omega
  .rw[if_neg e];omega
theorem gH{l:Array Bool}{i:Nat}(hi:i<l.size)(h0:l.getD i true=false):∀n,i<n->YK (l.setIfInBounds i true) n<YK l n
 |0,h=>absurd h (Al _)
 |n+1,h=>by
  unfold YK;rw[Dr hi];by_cases e:n=i;.subst e;have:=Wo hi n;rw[if_pos rfl,h0];simp;omega
  .have:=gH hi h0 n Za;rw[if_neg e];omega
theorem TM{l:Array Bool}:∀{n:Nat},YK l n=0->∀i,i<n->l.getD i true=true
 |0,_,i,h=>absurd h (Al _)
 |n+1,h0,i,h=>by
  unfold YK at h0;by_cases e:i=n;.subst e;cases hg:l.getD i true with
   |true=>rfl
   |false=>rw[hg]at h0;simp at h0
  .exact TM (n:=n) Za i Za
theorem aA (l:Array Bool):∀n,YK l n<=n
 |0=>Aw _
 |n+1=>by unfold YK;have:=aA l n;split<;>omega
theorem QD{P:Program}{md:Region.Mode}{ops:Array Oper}{Q:Exit->Act->World->Prop}(Inv:Array Bool->Act->World->Prop)(hsz:∀l a w,Inv l a w->l.size=ops.size)(hdone:∀l a w,Inv l a w->Region.ready md ops l=[]->Q .normal a w)(hstep:∀l a w i,Inv l a w->i∈Region.ready md ops l->wpOp P ops Q i (Inv (l.setIfInBounds i true)) a w):∀fuel l a w,Inv l a w->YK l ops.size<=fuel->wpAny P md ops Q fuel l a w
 |0,l,a,w,hI,hc=>by
  have hr:Region.ready md ops l=[]:=by
   rw[List.eq_nil_iff_forall_not_mem];intro i hi;have h1:=(KJ.1 hi);have h2:i<ops.size:=by simpa using h1.1
   have h3:=h1.2;rw[TM Za i h2]at h3;simp at h3
  exact⟨hr,hdone l a w hI hr⟩
 |fuel+1,l,a,w,hI,hc=>by
  refine⟨λhr=>hdone l a w hI hr,λi hi=>?_⟩;have h1:=(KJ.1 hi);have h2:i<ops.size:=by simpa using h1.1
  have h3:l.getD i true=false:=by have h4:=h1.2;simp only[AG]at h4;simpa using h4.1
  have hs:=hsz l a w hI;have h5:=gH (l:=l) (i:=i) Za h3 ops.size h2;exact Xx (λa' w' hI'=>QD Inv hsz hdone hstep fuel _ a' w' hI' Za) (hstep l a w i hI hi)
theorem DV{P:Program}{id:Nat}{ops:Array Oper}{Q:Exit->Act->World->Prop}{a:Act}{w:World}(hm:P.follows .mixedOrders=true)(Inv:Array Bool->Act->World->Prop)(h0:Inv (Array.replicate ops.size false) a w.drew)(hsz:∀l a w,Inv l a w->l.size=ops.size)(hdone:∀l a w,Inv l a w->Region.ready .any ops l=[]->Q .normal a w)(hstep:∀l a w i,Inv l a w->i∈Region.ready .any ops l->wpOp P ops Q i (Inv (l.setIfInBounds i true)) a w):(Code.region id ops true).wp P Q a w:=wp_region_any hm (QD Inv hsz hdone hstep _ _ _ _ h0 (aA _ _))
theorem Gv{ops:Array Oper}{l:Array Bool}(hord:((List.range ops.size).all λi=>match ops[i]? with|some o=>o.after.all (λe=>decide (e.on<i))|none=>true)=true)(hs:l.size=ops.size)(hr:Region.ready .any ops l=[]):∀i,i<ops.size->l.getD i false=true:=by
 have conv:∀i,i<ops.size->l.getD i true=l.getD i false:=λi hi=>by simp[Array.getD,hs,hi]
 intro i;induction i using Nat.strongRecOn with
 |_ i ih=>intro hi;cases hg:l.getD i false with
  |true=>rfl
  |false=>
   have hm:i∈Region.ready .any ops l:=by
    rw[mem_ready];refine⟨(conv i hi).trans hg,ops[i],by simp[hi],λe he _=>?_⟩;have h1:=BO.1 hord i (by simpa using hi);simp only[MZ hi]at h1;have h2:=(Bn.1 h1) e he;have h3:e.on<i:=by simpa using h2
    exact ih e.on h3 Za
   rw[hr]at hm;cases hm
theorem Am{P:Program}{ops:Array Oper}{Q:Exit->Act->World->Prop}{i:Nat}{K:Act->World->Prop}{a:Act}{w:World}{o:Oper}(ho:ops[i]?=some o)(hg:o.guard=none)(h:o.wp P a w K Q):wpOp P ops Q i K a w:=by unfold wpOp;rw[ho];simp only[Region.wanted,hg,if_true];exact AD h
theorem Ly (a:ByteArray)(w:World):Calls prog 201 #[.s a] w λe w'=>e=.returned (.bool false)/\w'=w:=by go_enter func201,ntmps201;go_wp2;go_ret;exact⟨rfl,rfl⟩
def Dg (a b:ByteArray):Int:=if D4 a b then-1 else if a.toList=b.toList then 0 else 1
theorem iP{P:Prop}(h:P:=by clear h2;go_enter func183,ntmps183;go_wp2_with (go_at_call 201;refine(Ly _ _).mono ?_;rintro e w1 ⟨rfl,rfl⟩);go_ret;exact⟨Bs HE.symm,rfl⟩):P:=h
theorem NM (a b:ByteArray)(w:World):Calls prog 183 #[.s a,.s b] w λe w'=>e=.returned (.i (Dg a b))/\w'=w:=by cases h1:D4 a b with
 |true=>have h1':Op.bytesLess a.toList b.toList=true:=h1;go_enter func183,ntmps183;go_wp2_with (go_at_call 201;refine(Ly _ _).mono ?_;rintro e w1 ⟨rfl,rfl⟩);go_ret;exact⟨Bs (by unfold Dg;rw[h1];rfl),rfl⟩
 |false=>
  have h1':Op.bytesLess a.toList b.toList=false:=h1;by_cases h2:a.toList=b.toList
  .have h2':(a.toList==b.toList)=true:=by simp[h2]
   have HE:=Ai (show Dg a b=0 by unfold Dg;rw[h1,if_pos h2];rfl);exact iP
  .have h2':(a.toList==b.toList)=false:=by simp[h2]
   have HE:=Ai (show Dg a b=1 by unfold Dg;rw[h1,if_neg h2];rfl);exact iP
def Uq (k1 k2:Int):Int:=if k1=0 then k2 else k1
theorem pK (k1 k2:Int)(b cap:Nat)(w:World)(h1:w.cell? ⟨b,0,none⟩=some (.i k1))(h2:w.cell? ⟨b,1,none⟩=some (.i k2)):Calls prog 182 #[.l (some ⟨b,0,none⟩) 2 cap] w λe w'=>e=.returned (.i (Uq k1 k2))/\w'=w:=by
 go_enter func182,ntmps182;go_wp2;go_loopw[8](λi wr=>wr=w/\((i=.i 0)\/(i=.i 1/\k1=0)\/(i=.i 2/\k1=0/\k2=0)))(λi _=>2-(intOf i).toNat);case atStart=>exact⟨rfl,AD rfl⟩
 case round=>
  obtain⟨rfl,rfl|⟨rfl,e1⟩|⟨rfl,e1,e2⟩⟩:=hrel
  .by_cases e:k1=0
   .subst e;go_wp2;go_roundw;case rel=>exact⟨by first|rfl|trivial,Ax (AD ⟨by go_num,by first|rfl|trivial⟩)⟩
    case measure=>simp[intOf]
   .have eb:(k1 !=0)=true:=by simp[e]
    have HE:=Ai (show Uq k1 k2=k1 from if_neg e);go_wp2;go_ret;exact⟨Bs HE.symm,rfl⟩
  .subst e1;by_cases e:k2=0
   .subst e;go_wp2;go_roundw;case rel=>exact⟨by first|rfl|trivial,Ax (Ax ⟨by go_num,by first|rfl|trivial,by first|rfl|trivial⟩)⟩
    case measure=>simp[intOf]
   .have eb:(k2 !=0)=true:=by simp[e]
    have HE:=Ai (show Uq 0 k2=k2 from if_pos rfl);go_wp2;go_ret;exact⟨Bs HE.symm,rfl⟩
  .subst e1 e2;go_wp2;go_ret;exact⟨Bs rfl,rfl⟩
def D0 (w0:World)(k1 n1 ki na:ByteArray)(l:Array Bool)(a:Act)(w:World):Prop:=∃(t4 t5 t6 t7 t8 t9 t10 t11 t12 t13 t14 t15 t16:Value),a=⟨#[.agg #[.s k1,.s n1],.agg #[.s ki,.s na],.p (w0.1.size) 0,.p (w0.1.size+1) 0,t4,t5,t6,t7,t8,t9,t10,t11,t12,t13,t14,t15,t16],[]⟩/\l.size=13/\(l.getD 0 false=true->t5=.p (w0.1.size) 0)/\(l.getD 1 false=true->t6=.s k1)/\(l.getD 2 false=true->t7=.p (w0.1.size+1) 0)/\(l.getD 3 false=true->t8=.s ki)/\(l.getD 4 false=true->t9=.i (Dg k1 ki))/\(l.getD 5 false=true->t10=.p (w0.1.size) 1)/\(l.getD 6 false=true->t11=.s n1)/\(l.getD 7 false=true->t12=.p (w0.1.size+1) 1)/\(l.getD 8 false=true->t13=.s na)/\(l.getD 9 false=true->t14=.i (Dg n1 na))/\(l.getD 10 false=true->t15=.l (some ⟨w0.1.size+1+1,0,none⟩) 2 2/\w=(((w0.alloc (.cells #[.s k1,.s n1] 139)).alloc (.cells #[.s ki,.s na] 139)).drew.alloc (.cells #[.i (Dg k1 ki),.i (Dg n1 na)] 3)))/\(l.getD 11 false=true->t16=.i (Uq (Dg k1 ki) (Dg n1 na)))/\(l.getD 12 false=true->t4=.i (Uq (Dg k1 ki) (Dg n1 na)))/\(l.getD 10 false=false->w=((w0.alloc (.cells #[.s k1,.s n1] 139)).alloc (.cells #[.s ki,.s na] 139)).drew)
theorem PQ (k1 n1 ki na:ByteArray)(w:World):Calls prog 153 #[.agg #[.s k1,.s n1],.agg #[.s ki,.s na]] w λe w'=>e=.returned (.i (Uq (Dg k1 ki) (Dg n1 na)))/\Below w.1.size w w':=by
 go_enter func153,ntmps153;go_wp2;refine DV Zc (D0 w k1 n1 ki na) ?_ ?_ ?_ ?_;.unfold D0;refine⟨_,_,_,_,_,_,_,_,_,_,_,_,_,rfl,Ze,?_⟩;simp
 .intro l a w' hI;obtain⟨t4,t5,t6,t7,t8,t9,t10,t11,t12,t13,t14,t15,t16,rfl,hls,_⟩:=hI;exact hls
 .intro l a w' hI hr;obtain⟨t4,t5,t6,t7,t8,t9,t10,t11,t12,t13,t14,t15,t16,rfl,hls,f0,f1,f2,f3,f4,f5,f6,f7,f8,f9,f10,f11,f12,f13⟩:=hI;have AL:=Gv Zc (by rw[hls];rfl) hr;obtain rfl:=f12 (AL 12 Zb);obtain rfl:=(f10 (AL 10 Zb)).2;clear f0 f1 f2 f3 f4 f5 f6 f7 f8 f9 f10 f11 f12 f13 AL hr hls;go_wp2;go_ret;exact⟨rfl,((((An _ _).alloc Ze _).drew).alloc Zd _)⟩
 .intro l a w' i hI hr;obtain⟨t4,t5,t6,t7,t8,t9,t10,t11,t12,t13,t14,t15,t16,rfl,hls,f0,f1,f2,f3,f4,f5,f6,f7,f8,f9,f10,f11,f12,f13⟩:=hI;obtain⟨hu,o',ho,hdep⟩:=mem_ready.1 hr;have hi16:i<13:=by
   rcases As i 13 with h|h;.exact h
   .rw[Cs (by simpa using h)]at ho;cases ho
  have kp:∀j,¬j=i->(l.setIfInBounds i true).getD j false=l.getD j false:=λj hj=>by rw[Dr Za,if_neg hj]
  have ki':(l.setIfInBounds i true).getD i false=true:=by rw[Dr Za,if_pos rfl]
  have hsz':(l.setIfInBounds i true).size=13:=by simp[hls]
  have hui:l.getD i false=false:=by simpa[Array.getD,hls,hi16]using hu
  have hcell:∀j,w'.cell? ⟨w.1.size,j,none⟩=(#[.s k1,.s n1]:Array Value)[j]?/\w'.cell? ⟨w.1.size+1,j,none⟩=(#[.s ki,.s na]:Array Value)[j]?:=λj=>by cases h10:l.getD 10 false with
   |false=>rw[f13 h10];simp
   |true=>
    rw[(f10 h10).2];refine⟨?_,?_⟩;.rw[Ar _ _ _ Zd];simp
    .rw[Ar _ _ _ Ze];simp
  have p0:=(hcell 0).1;have p1:=(hcell 1).1;have s0:=(hcell 0).2;have s1:=(hcell 1).2;simp only[Ah,Ad,Ab]at p0 p1 s0 s1;clear hr hu hcell;rcases(show i=0\/i=1\/i=2\/i=3\/i=4\/i=5\/i=6\/i=7\/i=8\/i=9\/i=10\/i=11\/i=12 by omega)with rfl|rfl|rfl|rfl|rfl|rfl|rfl|rfl|rfl|rfl|rfl|rfl|rfl;.simp only[Ah,Ab,AR]at ho;subst ho;clear hdep;refine Am rfl rfl ?_;generalize hK:D0 w k1 n1 ki na (l.setIfInBounds 0 true)=K;go_simp;rw[<-hK];unfold D0;exact⟨t4,_,t6,t7,t8,t9,t10,t11,t12,t13,t14,t15,t16,rfl,hsz',(λ_=>rfl),Zv,Zw,Zx,Zy,Zz,Pg,M1,M2,Pd,YN,Zr,Zs,YL⟩
  .simp only[Ah,Ad,Ab,AR]at ho;subst ho;have q0:l.getD 0 false=true:=hdep ⟨0,.data⟩ Ze rfl;clear hdep;obtain rfl:=f0 q0;refine Am rfl rfl ?_;generalize hK:D0 w k1 n1 ki na (l.setIfInBounds 1 true)=K;go_simp;rw[<-hK];unfold D0;exact⟨t4,_,_,t7,t8,t9,t10,t11,t12,t13,t14,t15,t16,rfl,hsz',M3,(λ_=>rfl),Zw,Zx,Zy,Zz,Pg,M1,M2,Pd,YN,Zr,Zs,YL⟩
  .simp only[Ah,Ad,Ab,AR]at ho;subst ho;clear hdep;refine Am rfl rfl ?_;generalize hK:D0 w k1 n1 ki na (l.setIfInBounds 2 true)=K;go_simp;rw[<-hK];unfold D0;exact⟨t4,t5,t6,_,t8,t9,t10,t11,t12,t13,t14,t15,t16,rfl,hsz',M3,Zv,(λ_=>rfl),Zx,Zy,Zz,Pg,M1,M2,Pd,YN,Zr,Zs,YL⟩
  .simp only[Ah,Ad,Ab,AR]at ho;subst ho;have q2:l.getD 2 false=true:=hdep ⟨2,.data⟩ Ze rfl;clear hdep;obtain rfl:=f2 q2;refine Am rfl rfl ?_;generalize hK:D0 w k1 n1 ki na (l.setIfInBounds 3 true)=K;go_simp;rw[<-hK];unfold D0;exact⟨t4,t5,t6,_,_,t9,t10,t11,t12,t13,t14,t15,t16,rfl,hsz',M3,Zv,Zw,(λ_=>rfl),Zy,Zz,Pg,M1,M2,Pd,YN,Zr,Zs,YL⟩
  .simp only[Ah,Ad,Ab,AR]at ho;subst ho;have q1:l.getD 1 false=true:=hdep ⟨1,.data⟩ Ze rfl;have q3:l.getD 3 false=true:=hdep ⟨3,.data⟩ Ze rfl;clear hdep;obtain rfl:=f1 q1;obtain rfl:=f3 q3;refine Am rfl rfl ?_;generalize hK:D0 w k1 n1 ki na (l.setIfInBounds 4 true)=K;go_simp;go_at_call 183;refine(NM _ _ _).mono ?_;rintro e w1 ⟨rfl,rfl⟩;rw[<-hK];unfold D0;exact⟨t4,t5,_,t7,_,_,t10,t11,t12,t13,t14,t15,t16,rfl,hsz',M3,Zv,Zw,Zx,(λ_=>rfl),Zz,Pg,M1,M2,Pd,YN,Zr,Zs,YL⟩
  .simp only[Ah,Ad,Ab,AR]at ho;subst ho;clear hdep;refine Am rfl rfl ?_;generalize hK:D0 w k1 n1 ki na (l.setIfInBounds 5 true)=K;go_simp;rw[<-hK];unfold D0;exact⟨t4,t5,t6,t7,t8,t9,_,t11,t12,t13,t14,t15,t16,rfl,hsz',M3,Zv,Zw,Zx,Zy,(λ_=>rfl),Pg,M1,M2,Pd,YN,Zr,Zs,YL⟩
  .simp only[Ah,Ad,Ab,AR]at ho;subst ho;have q5:l.getD 5 false=true:=hdep ⟨5,.data⟩ Ze rfl;clear hdep;obtain rfl:=f5 q5;refine Am rfl rfl ?_;generalize hK:D0 w k1 n1 ki na (l.setIfInBounds 6 true)=K;go_simp;rw[<-hK];unfold D0;exact⟨t4,t5,t6,t7,t8,t9,_,_,t12,t13,t14,t15,t16,rfl,hsz',M3,Zv,Zw,Zx,Zy,Zz,(λ_=>rfl),M1,M2,Pd,YN,Zr,Zs,YL⟩
  .simp only[Ah,Ad,Ab,AR]at ho;subst ho;clear hdep;refine Am rfl rfl ?_;generalize hK:D0 w k1 n1 ki na (l.setIfInBounds 7 true)=K;go_simp;rw[<-hK];unfold D0;exact⟨t4,t5,t6,t7,t8,t9,t10,t11,_,t13,t14,t15,t16,rfl,hsz',M3,Zv,Zw,Zx,Zy,Zz,Pg,(λ_=>rfl),M2,Pd,YN,Zr,Zs,YL⟩
  .simp only[Ah,Ad,Ab,AR]at ho;subst ho;have q7:l.getD 7 false=true:=hdep ⟨7,.data⟩ Ze rfl;clear hdep;obtain rfl:=f7 q7;refine Am rfl rfl ?_;generalize hK:D0 w k1 n1 ki na (l.setIfInBounds 8 true)=K;go_simp;rw[<-hK];unfold D0;exact⟨t4,t5,t6,t7,t8,t9,t10,t11,_,_,t14,t15,t16,rfl,hsz',M3,Zv,Zw,Zx,Zy,Zz,Pg,M1,(λ_=>rfl),Pd,YN,Zr,Zs,YL⟩
  .simp only[Ah,Ad,Ab,AR]at ho;subst ho;have q6:l.getD 6 false=true:=hdep ⟨6,.data⟩ Ze rfl;have q8:l.getD 8 false=true:=hdep ⟨8,.data⟩ Ze rfl;clear hdep;obtain rfl:=f6 q6;obtain rfl:=f8 q8;refine Am rfl rfl ?_;generalize hK:D0 w k1 n1 ki na (l.setIfInBounds 9 true)=K;go_simp;go_at_call 183;refine(NM _ _ _).mono ?_;rintro e w1 ⟨rfl,rfl⟩;rw[<-hK];unfold D0;exact⟨t4,t5,t6,t7,t8,t9,t10,_,t12,_,_,t15,t16,rfl,hsz',M3,Zv,Zw,Zx,Zy,Zz,Pg,M1,M2,(λ_=>rfl),YN,Zr,Zs,YL⟩
  .simp only[Ah,Ad,Ab,AR]at ho;subst ho;have q4:l.getD 4 false=true:=hdep ⟨4,.data⟩ Ze rfl;have q9:l.getD 9 false=true:=hdep ⟨9,.data⟩ Ze rfl;clear hdep;obtain rfl:=f4 q4;obtain rfl:=f9 q9;obtain rfl:=f13 hui;refine Am rfl rfl ?_;generalize hK:D0 w k1 n1 ki na (l.setIfInBounds 10 true)=K;go_simp;rw[<-hK];unfold D0;exact⟨t4,t5,t6,t7,t8,_,t10,t11,t12,t13,_,_,t16,rfl,hsz',M3,Zv,Zw,Zx,Zy,Zz,Pg,M1,M2,Pd,(λ_=>⟨Ze,rfl⟩),Zr,Zs,(λh=>absurd (ki'.symm.trans h) Zb)⟩
  .simp only[Ah,Ad,Ab,AR]at ho;subst ho;have q10:l.getD 10 false=true:=hdep ⟨10,.data⟩ Ze rfl;clear hdep;obtain⟨rfl,rfl⟩:=f10 q10;refine Am rfl rfl ?_;generalize hK:D0 w k1 n1 ki na (l.setIfInBounds 11 true)=K;go_simp;go_at_call 182;refine(pK (Dg k1 ki) (Dg n1 na) _ _ _ (by have h:=At ((w.alloc (.cells #[.s k1,.s n1] 139)).alloc (.cells #[.s ki,.s na] 139)) #[.i (Dg k1 ki),.i (Dg n1 na)] 3 0;simpa using h) (by have h:=At ((w.alloc (.cells #[.s k1,.s n1] 139)).alloc (.cells #[.s ki,.s na] 139)) #[.i (Dg k1 ki),.i (Dg n1 na)] 3 1;simpa using h)).mono ?_;rintro e w1 ⟨rfl,rfl⟩;rw[<-hK];unfold D0;exact⟨t4,t5,t6,t7,t8,t9,t10,t11,t12,t13,t14,_,_,rfl,hsz',M3,Zv,Zw,Zx,Zy,Zz,Pg,M1,M2,Pd,YN,(λ_=>rfl),Zs,YL⟩
  .simp only[Ah,Ad,Ab,AR]at ho;subst ho;have q11:l.getD 11 false=true:=hdep ⟨11,.data⟩ Ze rfl;clear hdep;obtain rfl:=f11 q11;refine Am rfl rfl ?_;generalize hK:D0 w k1 n1 ki na (l.setIfInBounds 12 true)=K;go_simp;rw[<-hK];unfold D0;exact⟨_,t5,t6,t7,t8,t9,t10,t11,t12,t13,t14,t15,_,rfl,hsz',M3,Zv,Zw,Zx,Zy,Zz,Pg,M1,M2,Pd,YN,Zr,(λ_=>rfl),YL⟩
theorem LS (x:Ob)(ad:OA)(cap:Nat)(w:World):Calls prog 139 #[.agg (vO x ad cap)] w λe w'=>e=.returned (.agg #[.s x.kind,.s x.name])/\Below w.1.size w w':=by go_enter func139,ntmps139;go_wp2;refine bodyPost_ret (v:=.agg #[.s x.kind,.s x.name]) (by simp[results,results139,go_sem]) rfl ⟨rfl,?_⟩;exact((An _ _).alloc Ze _)
theorem NY:∀a:List UInt8,Op.bytesLess a a=false
 |[]=>rfl
 |x::a=>by simp[Op.bytesLess,NY a]
theorem iH (x z:Ob):DH x z=decide (Uq (Dg x.kind z.kind) (Dg x.name z.name)<0):=by
 unfold DH Uq Dg;by_cases h2:x.kind.toList=z.kind.toList
 .have h1:D4 x.kind z.kind=false:=by unfold D4;rw[h2];exact NY _
  simp only[h1,h2,if_true,DB,if_false];cases h3:D4 x.name z.name with
  |true=>simp
  |false=>by_cases h4:x.name.toList=z.name.toList<;>simp[h4]
 .cases h1:D4 x.kind z.kind with
  |true=>simp[h2]
  |false=>simp[h2]
theorem U2 (x z:Ob)(ad ad2:OA)(cap cap2:Nat)(w:World):Calls prog 176 #[.agg (vO x ad cap),.agg (vO z ad2 cap2)] w λe w'=>e=.returned (.i (Uq (Dg x.kind z.kind) (Dg x.name z.name)))/\Below w.1.size w w':=by
 go_enter func176,ntmps176;go_wp2;have hne:Nonempty (GW ((w.alloc (.cells (vO x ad cap) 118)).alloc (.cells (vO z ad2 cap2) 118))):=⟨⟨_,Ak _ _⟩⟩;have x0:=Aj (W1:=(w.alloc (.cells (vO x ad cap) 118)).alloc (.cells (vO z ad2 cap2) 118)) (p:=⟨w.1.size,0,none⟩) (v:=.s x.kind) WM Zd;have z0:=Aj (W1:=(w.alloc (.cells (vO x ad cap) 118)).alloc (.cells (vO z ad2 cap2) 118)) (p:=⟨w.1.size+1,0,none⟩) (v:=.s z.kind) Ze Ze;have x1:=Aj (W1:=(w.alloc (.cells (vO x ad cap) 118)).alloc (.cells (vO z ad2 cap2) 118)) (p:=⟨w.1.size,1,none⟩) (v:=.s x.name) WM Zd;have z1:=Aj (W1:=(w.alloc (.cells (vO x ad cap) 118)).alloc (.cells (vO z ad2 cap2) 118)) (p:=⟨w.1.size+1,1,none⟩) (v:=.s z.name) Ze Ze;have x2:=Aj (W1:=(w.alloc (.cells (vO x ad cap) 118)).alloc (.cells (vO z ad2 cap2) 118)) (p:=⟨w.1.size,2,none⟩) (v:=.i x.ver) WM Zd;have z2:=Aj (W1:=(w.alloc (.cells (vO x ad cap) 118)).alloc (.cells (vO z ad2 cap2) 118)) (p:=⟨w.1.size+1,2,none⟩) (v:=.i z.ver) Ze Ze;have x3:=Aj (W1:=(w.alloc (.cells (vO x ad cap) 118)).alloc (.cells (vO z ad2 cap2) 118)) (p:=⟨w.1.size,3,none⟩) (v:=.i x.born) WM Zd;have z3:=Aj (W1:=(w.alloc (.cells (vO x ad cap) 118)).alloc (.cells (vO z ad2 cap2) 118)) (p:=⟨w.1.size+1,3,none⟩) (v:=.i z.born) Ze Ze;have x4:=Aj (W1:=(w.alloc (.cells (vO x ad cap) 118)).alloc (.cells (vO z ad2 cap2) 118)) (p:=⟨w.1.size,4,none⟩) (v:=.s x.text) WM Zd;have z4:=Aj (W1:=(w.alloc (.cells (vO x ad cap) 118)).alloc (.cells (vO z ad2 cap2) 118)) (p:=⟨w.1.size+1,4,none⟩) (v:=.s z.text) Ze Ze;have x5:=Aj (W1:=(w.alloc (.cells (vO x ad cap) 118)).alloc (.cells (vO z ad2 cap2) 118)) (p:=⟨w.1.size,5,none⟩) (v:=.bool x.ending) WM Zd;have z5:=Aj (W1:=(w.alloc (.cells (vO x ad cap) 118)).alloc (.cells (vO z ad2 cap2) 118)) (p:=⟨w.1.size+1,5,none⟩) (v:=.bool z.ending) Ze Ze;have x6:=Aj (W1:=(w.alloc (.cells (vO x ad cap) 118)).alloc (.cells (vO z ad2 cap2) 118)) (p:=⟨w.1.size,6,none⟩) (v:=.l ad x.hn cap) WM Zd;have z6:=Aj (W1:=(w.alloc (.cells (vO x ad cap) 118)).alloc (.cells (vO z ad2 cap2) 118)) (p:=⟨w.1.size+1,6,none⟩) (v:=.l ad2 z.hn cap2) Ze Ze;refine Ay Zc Zc ?_;repeat(go_big_quiet_step(first|(go_at_call 139;first|exact AY (LS x ad cap _)|exact AY (LS z ad2 cap2 _))|(go_at_call 153;go_must(exact AY (PQ _ _ _ _ _)))))
 refine wpQuiet_nil ?_;rintro w2 ⟨u,hu⟩;have hw2:Below ((w.alloc (.cells (vO x ad cap) 118)).alloc (.cells (vO z ad2 cap2) 118)).1.size ((w.alloc (.cells (vO x ad cap) 118)).alloc (.cells (vO z ad2 cap2) 118)) w2:=hu▸u.prop;clear hu u hne x0 x1 x2 x3 x4 x5 x6 z0 z1 z2 z3 z4 z5 z6;go_wp2;go_ret;exact⟨rfl,((An _ _).alloc Ze _).trans (hw2.mono Zd)⟩
theorem Pm (x z:Ob)(ad ad2:OA)(cap cap2:Nat)(w:World):Calls prog 135 #[.agg (vO x ad cap),.agg (vO z ad2 cap2)] w λe w'=>e=.returned (.bool (DH x z))/\Below w.1.size w w':=by have HE:=Ai (iH x z);have HB:=Ai (show∀o1 o2:Obj,Below w.1.size w ((w.alloc o1).alloc o2)from λo1 o2=>(An _ _).alloc Ze _);go_enter func135,ntmps135;go_wp2_with (go_at_call 176;refine(U2 x z _ _ _ _ _).mono ?_;rintro e w1 ⟨rfl,hb1⟩);go_ret;exact⟨Av HE.symm,(HB _ _).trans (hb1.mono Zd)⟩
theorem Pj (n:Nat)(x:Nat->Ob)(ad:OA)(cap:Nat)(w:World)(lo hi:Nat)(hhi:hi<=w.1.size)(hl:(n:Int)<=140737488355328)(hc:BH w lo hi ad n x):Calls prog 134 #[.l ad n cap,.func (.func 135) #[] #[]] w λe w'=>e=.returned (.bool (Ih n x))/\Below w.1.size w w':=by
 go_enter func134,ntmps134;go_wp2;go_loopw[5](λi wr=>∃k:Nat,1<=k/\(k<=n\/k=1)/\i=.i k/\(∀j,j<k->(j==0||DH (x (j-1)) (x j))=true)/\Below w.1.size w wr)(λi _=>n-(intOf i).toNat);case atStart=>exact⟨1,Aw _,Ax rfl,rfl,λj hj=>(by have:j=0:=Za;subst this;rfl),Ak _ _⟩
 case round=>
  obtain⟨k,hk1,hk,rfl,hall,hb⟩:=hrel;by_cases hkn:k<n
  .obtain⟨m,rfl⟩:∃m,k=m+1:=⟨k-1,Za⟩;obtain⟨b,off,ah,ch,rfl,hlo,hbh,hcx,_⟩:=hc (m+1) hkn;obtain⟨b',off',ah',ch',e,_,hbh',hcm,_⟩:=hc m Za;cases e;obtain⟨d0,d1,d2,d3,d4,d5,d6⟩:=hcx.below hb Za;obtain⟨q0,q1,q2,q3,q4,q5,q6⟩:=hcm.below hb Za;have hbw:b<wr.1.size:=by have:=hb.size;omega
   have rd0:=Aj d0 hbw;have rd1:=Aj d1 hbw;have rd2:=Aj d2 hbw;have rd3:=Aj d3 hbw;have rd4:=Aj d4 hbw;have rd5:=Aj d5 hbw;have rd6:=Aj d6 hbw;have rp0:=Aj q0 hbw;have rp1:=Aj q1 hbw;have rp2:=Aj q2 hbw;have rp3:=Aj q3 hbw;have rp4:=Aj q4 hbw;have rp5:=Aj q5 hbw;have rp6:=Aj q6 hbw;have hne:Nonempty (GW wr):=⟨⟨wr,Ak _ _⟩⟩;have HA:=Ai hall;have hkz:(m:Int)+1<=n:=Za;clear hall hc hk hcx hcm d0 d1 d2 d3 d4 d5 d6 q0 q1 q2 q3 q4 q5 q6;cases hlt:DH (x m) (x (m+1))with
   |false=>
    have HE:=Ai (show Ih n x=false from A9 (p:=λi=>i==0||DH (x (i-1)) (x i)) hkn (by simp[hlt]));go_wp2;refine Ay Zc Zc ?_;repeat(go_big_quiet_step((go_at_call 135;go_must(exact AY (Pm (x m) (x (m+1)) _ _ _ _ _)))))
    refine wpQuiet_nil ?_;rintro w2 ⟨u,hu⟩;have hw2:Below wr.1.size wr w2:=hu▸u.prop;clear hu u;go_wp2;go_ret;exact⟨Av HE.symm,hb.trans (hw2.mono hb.size)⟩
   |true=>
    have HN:=Ai (show(m+1==0||DH (x (m+1-1)) (x (m+1)))=true by simp[hlt]);go_wp2;refine Ay Zc Zc ?_;repeat(go_big_quiet_step((go_at_call 135;go_must(exact AY (Pm (x m) (x (m+1)) _ _ _ _ _)))))
    refine wpQuiet_nil ?_;rintro w2 ⟨u,hu⟩;have hw2:Below wr.1.size wr w2:=hu▸u.prop;clear hu u;go_wp2;go_roundw;case rel=>exact⟨m+2,Za,AD Za,by go_num,λj hj=>(by
     rcases As j (m+1)with h3|h3;.exact HA j h3
     .have:j=m+1:=Za;subst this;exact HN),hb.trans (hw2.mono hb.size)⟩
    case measure=>simp[intOf];omega
  .have HE:=Ai (show Ih n x=true from Bm.2 (λi hi=>hall i Za));clear hall hc hk;go_wp2;go_ret;exact⟨Av HE.symm,hb⟩
def DW (n:Nat)(x:Nat->Ob)(now:Int):Bool:=decide (n<=100)&&(Ih n x&&JG n x now)
theorem N6 (now floor:Int)(n:Nat)(x:Nat->Ob)(a1 a2 a3:OA)(c1 n2 c2 n3 c3:Nat)(w:World)(lo hi:Nat)(hhi:hi<=w.1.size)(hl:(n:Int)<=1099511627776)(hf:∀i,i<n->CW (x i))(hc:BH w lo hi a1 n x):Calls prog 84 #[.agg #[.i now,.i floor,.l a1 n c1,.l a2 n2 c2,.l a3 n3 c3]] w λe w'=>e=.returned (.bool (DW n x now))/\Below w.1.size w w':=by
 have hcA:=λo=>hc.below (An w o) hhi;by_cases h100:(100:Int)<n;.have HE:=Ai (show DW n x now=false by unfold DW;rw[decide_eq_false Za];rfl);go_enter func84,ntmps84;go_wp2;go_ret;exact⟨Av HE.symm,An _ _⟩
 cases ha:Ih n x with
 |false=>have HE:=Ai (show DW n x now=false by unfold DW;rw[ha];simp);go_enter func84,ntmps84;go_wp2_with (go_at_call 134;refine(Pj n x a1 c1 _ lo hi Zd Za (hcA _)).mono ?_;rintro e w1 ⟨rfl,hb1⟩);go_ret;exact⟨Av HE.symm,(An _ _).trans (hb1.mono Ze)⟩
 |true=>
  have KN:=Ai ha;go_enter func84,ntmps84;go_wp2_with (go_at_call 134;refine(Pj n x a1 c1 _ lo hi Zd Za (hcA _)).mono ?_;rintro e w1 ⟨rfl,hb1⟩;have k0:=Au hb1 0;have k2:=Au hb1 2;simp only[Ah,Ad,Ab]at k0 k2;have hB1:Below w.1.size w w1:=(An _ _).trans (hb1.mono Ze);have hz1:w.1.size<w1.1.size:=(by have:=hb1.size;simp at this;omega);clear hb1);go_loopw[18](λi wr=>∃k:Nat,k<=n/\i=.i k/\(∀j,j<k->BM (x j) now=true/\CX (x j)=true)/\Below w.1.size w wr/\w.1.size<wr.1.size/\wr.cell? ⟨w.1.size,0,none⟩=some (.i now))(λi _=>n-(intOf i).toNat);case atStart=>exact⟨0,Ap _,rfl,λj hj=>absurd hj (Al _),hB1,hz1,k0⟩
  case round=>
   obtain⟨k,hk,rfl,hall,hb,hz,hb0⟩:=hrel;by_cases hkn:k<n
   .obtain⟨b,off,ah,ch,rfl,hlo,hbh,hcx,hsx⟩:=hc k hkn;have hfk:=hf k hkn;have hfh:((x k).hn:Int)<=140737488355328:=by have:=hfk.h;omega
    obtain⟨d0,d1,d2,d3,d4,d5,d6⟩:=hcx.below hb Za;have hs1:=hsx.below hb hhi;have HA:=Ai hall;clear hall hc hf hcx hsx hcA k0 k2 hB1 hz1 ha;cases hp:BM (x k) now with
    |false=>have HE:=Ai (show DW n x now=false by unfold DW JG;rw[A9 (p:=λi=>BM (x i) now&&CX (x i)) hkn (by rw[hp];rfl)];simp);go_wp2_with (go_at_call 136;refine(GS (x k) now ah ch _ lo hi Yg hfk (hs1.alloc rD _)).mono ?_;rintro e w2 ⟨rfl,hb2⟩);go_ret;exact⟨Av HE.symm,(hb.alloc hb.size _).trans (hb2.mono Yg)⟩
    |true=>
     have HP:=Ai hp;go_wp2_with (go_at_call 136;refine(GS (x k) now ah ch _ lo hi Yg hfk (hs1.alloc rD _)).mono ?_;rintro e w2 ⟨rfl,hb2⟩;have t0:=Au hb2 0;have t1:=Au hb2 1;have t2:=Au hb2 2;have t3:=Au hb2 3;have t4:=Au hb2 4;have t5:=Au hb2 5;have t6:=Au hb2 6;simp only[Ah,Ad,Ab]at t0 t1 t2 t3 t4 t5 t6);refine(Gb (x k) ah ch _ hfh).mono ?_;rintro e w3 ⟨rfl,hb3⟩;have hB2:Below w.1.size w w2:=(hb.alloc hb.size _).trans (hb2.mono Yg);have hB3:Below w.1.size w w3:=hB2.trans (hb3.mono hB2.size);have hz2:wr.1.size<w2.1.size:=by have:=hb2.size;simp at this;omega
     have h00:w3.cell? ⟨w.1.size,0,none⟩=some (.i now):=(hb3.cell (p:=⟨w.1.size,0,none⟩) Zg).trans ((hb2.cell (p:=⟨w.1.size,0,none⟩) Zd).trans ((Ar _ _ _ hz).trans hb0));have hz3:w.1.size<w3.1.size:=by have:=hb3.size;omega
     clear t0 t1 t2 t3 t4 t5 t6 d0 d1 d2 d3 d4 d5 d6 hs1 hb2 hb3;cases hst:CX (x k)with
     |false=>have HE:=Ai (show DW n x now=false by unfold DW JG;rw[A9 (p:=λi=>BM (x i) now&&CX (x i)) hkn (by rw[hp,hst];rfl)];simp);go_wp2;go_ret;exact⟨Av HE.symm,hB3⟩
     |true=>
      have HS:=Ai hst;go_wp2;go_roundw;case rel=>exact⟨k+1,Za,by go_num,λj hj=>(by
       rcases As j k with h3|h3;.exact HA j h3
       .have:j=k:=Za;subst this;exact⟨HP,HS⟩),hB3,hz3,h00⟩
      case measure=>simp[intOf];omega
   .have HE:=Ai (show DW n x now=true by unfold DW JG;rw[KN.out,decide_eq_true (show n<=100 by omega),Bm.2 (λi hi=>by rw[(hall i Za).1,(hall i Za).2];rfl)];rfl);clear hall hc hf hcA;go_wp2;go_ret;exact⟨Av HE.symm,hb⟩
end Go.Proofs.YtllmmkchokkaaaaGreatDoor
