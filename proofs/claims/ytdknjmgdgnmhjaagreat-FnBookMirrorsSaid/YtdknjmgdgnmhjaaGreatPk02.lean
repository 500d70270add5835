import Derived.Test.YtdknjmgdgnmhjaaGreatPk01
import Derived.Orders
set_option maxRecDepth 100000
set_option maxHeartbeats 2000000
namespace Go.Proofs.YtdknjmgdgnmhjaaGreat
open Go.RowKit Go.Proofs.Tryz
variable {P:Program}{ops:Array Oper}{Q:Exit→Act→World→Prop}{i j id:Nat}{K K':Act→World→Prop}{a a0:Act}{w W:World}{l:Array Bool}{t:Nat→Value}{v:Value}
theorem gS (h:∀a w,K a w->K' a w)(hh:wpOp P ops Q i K a w):wpOp P ops Q i K' a w:=by
 unfold wpOp at*;split at hh;.exact h _ _ hh
 .split at hh;.next hw=>
   rw[if_pos hw];rcases hh with hh|hh;.exact AA (Oper.wp_mono h hh)
   .exact Az hh
  .next hw=>rw[if_neg hw];exact h _ _ hh
def cnt (l:Array Bool):Nat->Nat
 |0=>0
 |n+1=>cnt l n+(if l.getD n true then 0 else 1)
theorem Cq (hi:i<l.size)(d:Bool):(l.setIfInBounds i true).getD j d=if j=i then true else l.getD j d:=by
 by_cases h:j=i;.subst h;simp[Array.getD,hi]
 .rw[if_neg h,Array.getD_eq_getD_getElem?,Array.getD_eq_getD_getElem?,Array.getElem?_setIfInBounds,if_neg (λe=>h e.symm)]
theorem fG{l:Array Bool}{i:Nat}(hi:i<l.size):∀n,cnt (l.setIfInBounds i true) n<=cnt l n
 |0=>AG _
 |n+1=>by
  unfold cnt;have h:=fG hi n;rw[Cq hi];by_cases e:n=i;.rw[if_pos e];simp;split<;>omega
  .rw[if_neg e];omega
theorem aR{l:Array Bool}{i:Nat}(hi:i<l.size)(h0:l.getD i true=false):∀n,i<n->cnt (l.setIfInBounds i true) n<cnt l n
 |0,h=>absurd h (Ae _)
 |n+1,h=>by
  unfold cnt;rw[Cq hi];by_cases e:n=i;.subst e;have:=fG hi n;rw[if_pos rfl,h0];simp;omega
  .have:=aR hi h0 n Za;rw[if_neg e];omega
theorem Xa{l:Array Bool}:∀{n:Nat},cnt l n=0->∀i,i<n->l.getD i true=true
 |0,_,i,h=>absurd h (Ae _)
 |n+1,h0,i,h=>by
  unfold cnt at h0;by_cases e:i=n;.subst e;cases hg:l.getD i true with
   |true=>rfl
   |false=>rw[hg]at h0;simp at h0
  .exact Xa (n:=n) Za i Za
theorem ZC (l:Array Bool):∀n,cnt l n<=n
 |0=>AG _
 |n+1=>by unfold cnt;have:=ZC l n;split<;>omega
theorem To{P:Program}{md:Region.Mode}{ops:Array Oper}{Q:Exit->Act->World->Prop}(Inv:Array Bool->Act->World->Prop)(JP:∀l a w,Inv l a w->l.size=ops.size)(LB:∀l a w,Inv l a w->Region.ready md ops l=[]->Q .normal a w)(Nv:∀l a w i,Inv l a w->i∈Region.ready md ops l->wpOp P ops Q i (Inv (l.setIfInBounds i true)) a w):∀fuel l a w,Inv l a w->cnt l ops.size<=fuel->wpAny P md ops Q fuel l a w
 |0,l,a,w,hI,hc=>by exact wg
 |fuel+1,l,a,w,hI,hc=>by
  refine⟨λhr=>LB l a w hI hr,λi hi=>?_⟩;have h1:=(DS.1 hi);have h2:i<ops.size:=by simpa using h1.1
  have h3:l.getD i true=false:=by have h4:=h1.2;simp only[As]at h4;simpa using h4.1
  have hs:=JP l a w hI;have h5:=aR (l:=l) (i:=i) Za h3 ops.size h2;exact gS (λa' w' hI'=>To Inv JP LB Nv fuel _ a' w' hI' Za) (Nv l a w i hI hi)
theorem Dk (hm:P.follows .mixedOrders=true)(Inv:Array Bool->Act->World->Prop)(h0:Inv (Array.replicate ops.size false) a w.drew)(JP:∀l a w,Inv l a w->l.size=ops.size)(LB:∀l a w,Inv l a w->Region.ready .any ops l=[]->Q .normal a w)(Nv:∀l a w i,Inv l a w->i∈Region.ready .any ops l->wpOp P ops Q i (Inv (l.setIfInBounds i true)) a w):(Code.region id ops true).wp P Q a w:=wp_region_any hm (To Inv JP LB Nv _ _ _ _ h0 (ZC _ _))
theorem JF (Fj:((List.range ops.size).all λi=>match ops[i]? with|some o=>o.after.all (λe=>decide (e.on<i))|none=>true)=true)(hs:l.size=ops.size)(hr:Region.ready .any ops l=[]):∀i,i<ops.size->l.getD i false=true:=by
 have conv:∀i,i<ops.size->l.getD i true=l.getD i false:=λi hi=>by simp[Array.getD,hs,hi]
 intro i;induction i using Nat.strongRecOn with
 |_ i ih=>intro hi;cases hg:l.getD i false with
  |true=>rfl
  |false=>
   have hm:i∈Region.ready .any ops l:=by
    rw[mem_ready];refine⟨(conv i hi).trans hg,ops[i],by simp[hi],λe he _=>?_⟩;have h1:=Bz.1 Fj i Zci;simp only[FL hi]at h1;have h2:=(BO.1 h1) e he;have h3:e.on<i:=by simpa using h2
    exact ih e.on h3 Za
   rw[hr]at hm;cases hm
theorem Au{o:Oper}(ho:ops[i]?=some o)(hg:o.guard=none)(h:o.wp P a w K Q):wpOp P ops Q i K a w:=by unfold wpOp;rw[ho];simp only[Region.wanted,hg,if_true];exact AA h
theorem Ri (a:ByteArray)(w:World):Calls prog 118 #[.s a] w λe w'=>e=.returned (.bool false)/\w'=w:=by go_enter func118,ntmps118;go_wp2;go_ret;exact⟨rfl,rfl⟩
def Iu (a b:ByteArray):Int:=if Gt a b then-1 else if a.toList=b.toList then 0 else 1
theorem PB (a b:ByteArray)(w:World):Calls prog 117 #[.s a,.s b] w λe w'=>e=.returned (.i (Iu a b))/\w'=w:=by cases h1:Gt a b with
 |true=>have gt:Op.bytesLess a.toList b.toList=true:=h1;go_enter func117,ntmps117;go_wp2_with (go_at_call 118;refine(Ri _ _).mono ?_;rintro e w1 ⟨rfl,rfl⟩);go_ret;exact⟨Kj (by unfold Iu;rw[h1];rfl),rfl⟩
 |false=>
  have gt:Op.bytesLess a.toList b.toList=false:=h1;by_cases h2:a.toList=b.toList
  .have h2':(a.toList==b.toList)=true:=by simp[h2]
   have HE:=Ab (show Iu a b=0 by unfold Iu;rw[h1,if_pos h2];rfl);exact H_
  .have h2':(a.toList==b.toList)=false:=by simp[h2]
   have HE:=Ab (show Iu a b=1 by unfold Iu;rw[h1,if_neg h2];rfl);exact H_
def qw (k1 k2:Int):Int:=if k1=0 then k2 else k1
theorem Aby (k1 k2:Int)(b cap:Nat)(w:World)(h1:w.cell? ⟨b,0,none⟩=some (.i k1))(h2:w.cell? ⟨b,1,none⟩=some (.i k2)):Calls prog 116 #[.l (some ⟨b,0,none⟩) 2 cap] w λe w'=>e=.returned (.i (qw k1 k2))/\w'=w:=by
 go_enter func116,ntmps116;go_wp2;go_loopw[8](λi wr=>wr=w/\((i=.i 0)\/(i=.i 1/\k1=0)\/(i=.i 2/\k1=0/\k2=0)))(λi _=>2-(intOf i).toNat);case atStart=>exact⟨rfl,AA rfl⟩
 case round=>
  obtain⟨rfl,rfl|⟨rfl,e1⟩|⟨rfl,e1,e2⟩⟩:=hrel
  .by_cases e:k1=0
   .subst e;go_wp2;go_roundw;case rel=>exact⟨by first|rfl|trivial,Az (AA ⟨by go_num,by first|rfl|trivial⟩)⟩
    case measure=>simp[intOf]
   .have eb:(k1 !=0)=true:=by simp[e]
    have HE:=Ab (show qw k1 k2=k1 from if_neg e);go_wp2;go_ret;exact⟨Kj HE.symm,rfl⟩
  .subst e1;by_cases e:k2=0
   .subst e;go_wp2;go_roundw;case rel=>exact⟨by first|rfl|trivial,Az (Az ⟨by go_num,by first|rfl|trivial,by first|rfl|trivial⟩)⟩
    case measure=>simp[intOf]
   .have eb:(k2 !=0)=true:=by simp[e]
    have HE:=Ab (show qw 0 k2=k2 from if_pos rfl);go_wp2;go_ret;exact⟨Kj HE.symm,rfl⟩
  .subst e1 e2;go_wp2;go_ret;exact⟨Kj rfl,rfl⟩
def EN (w0:World)(k1 n1 ki na:ByteArray)(l:Array Bool)(a:Act)(w:World):Prop:=∃(t4 t5 t6 t7 t8 t9 Yw YE YF YL Yz YK Yy:Value),a=⟨#[.agg #[.s k1,.s n1],.agg #[.s ki,.s na],.p (w0.1.size) 0,.p (w0.1.size+1) 0,t4,t5,t6,t7,t8,t9,Yw,YE,YF,YL,Yz,YK,Yy],[]⟩/\l.size=13/\(l.getD 0 false=true->t5=.p (w0.1.size) 0)/\(l.getD 1 false=true->t6=.s k1)/\(l.getD 2 false=true->t7=.p (w0.1.size+1) 0)/\(l.getD 3 false=true->t8=.s ki)/\(l.getD 4 false=true->t9=.i (Iu k1 ki))/\(l.getD 5 false=true->Yw=.p (w0.1.size) 1)/\(l.getD 6 false=true->YE=.s n1)/\(l.getD 7 false=true->YF=.p (w0.1.size+1) 1)/\(l.getD 8 false=true->YL=.s na)/\(l.getD 9 false=true->Yz=.i (Iu n1 na))/\(l.getD 10 false=true->YK=.l (some ⟨w0.1.size+1+1,0,none⟩) 2 2/\w=(((w0.alloc (.cells #[.s k1,.s n1] 89)).alloc (.cells #[.s ki,.s na] 89)).drew.alloc (.cells #[.i (Iu k1 ki),.i (Iu n1 na)] 3)))/\(l.getD 11 false=true->Yy=.i (qw (Iu k1 ki) (Iu n1 na)))/\(l.getD 12 false=true->t4=.i (qw (Iu k1 ki) (Iu n1 na)))/\(l.getD 10 false=false->w=((w0.alloc (.cells #[.s k1,.s n1] 89)).alloc (.cells #[.s ki,.s na] 89)).drew)
theorem ZU (k1 n1 ki na:ByteArray)(w:World):Calls prog 112 #[.agg #[.s k1,.s n1],.agg #[.s ki,.s na]] w λe w'=>e=.returned (.i (qw (Iu k1 ki) (Iu n1 na)))/\Below w.1.size w w':=by
 go_enter func112,ntmps112;go_wp2;refine Dk Zc (EN w k1 n1 ki na) ?_ ?_ ?_ ?_;.unfold EN;refine⟨_,_,_,_,_,_,_,_,_,_,_,_,_,rfl,Ze,?_⟩;simp
 .intro l a w' hI;obtain⟨t4,t5,t6,t7,t8,t9,Yw,YE,YF,YL,Yz,YK,Yy,rfl,Wu,_⟩:=hI;exact Wu
 .intro l a w' hI hr;obtain⟨t4,t5,t6,t7,t8,t9,Yw,YE,YF,YL,Yz,YK,Yy,rfl,Wu,f0,f1,f2,f3,f4,f5,f6,f7,f8,f9,f10,f11,f12,f13⟩:=hI;have AL:=JF Zc (by rw[Wu];rfl) hr;obtain rfl:=f12 (AL 12 Zb);obtain rfl:=(f10 (AL 10 Zb)).2;clear f0 f1 f2 f3 f4 f5 f6 f7 f8 f9 f10 f11 f12 f13 AL hr Wu;go_wp2;go_ret;exact⟨rfl,((((AC _ _).alloc Ze _).drew).alloc Zd _)⟩
 .intro l a w' i hI hr;obtain⟨t4,t5,t6,t7,t8,t9,Yw,YE,YF,YL,Yz,YK,Yy,rfl,Wu,f0,f1,f2,f3,f4,f5,f6,f7,f8,f9,f10,f11,f12,f13⟩:=hI;obtain⟨hu,o',ho,BJ⟩:=mem_ready.1 hr;have Aau:i<13:=by
   rcases AD i 13 with h|h;.exact h
   .exact vK
  have kp:∀j,¬j=i->(l.setIfInBounds i true).getD j false=l.getD j false:=λj hj=>by rw[Cq Za,if_neg hj]
  have ki':(l.setIfInBounds i true).getD i false=true:=by rw[Cq Za,if_pos rfl]
  have KS:(l.setIfInBounds i true).size=13:=by simp[Wu]
  have FH:l.getD i false=false:=by simpa[Array.getD,Wu,Aau]using hu
  have Pb:∀j,w'.cell? ⟨w.1.size,j,none⟩=(#[.s k1,.s n1]:Array Value)[j]?/\w'.cell? ⟨w.1.size+1,j,none⟩=(#[.s ki,.s na]:Array Value)[j]?:=λj=>by cases h10:l.getD 10 false with
   |false=>rw[f13 h10];simp
   |true=>
    rw[(f10 h10).2];refine⟨?_,?_⟩;.rw[At _ _ _ Zd];simp
    .rw[At _ _ _ Ze];simp
  have p0:=(Pb 0).1;have p1:=(Pb 1).1;have s0:=(Pb 0).2;have s1:=(Pb 1).2;simp only[Ah,Ai,Af]at p0 p1 s0 s1;clear hr hu Pb;rcases(Aff i Za)with rfl|rfl|rfl|rfl|rfl|rfl|rfl|rfl|rfl|rfl|rfl|rfl|rfl;.simp only[Ah,Af,AZ]at ho;subst ho;clear BJ;refine Au rfl rfl ?_;generalize hK:EN w k1 n1 ki na (l.setIfInBounds 0 true)=K;go_simp;rw[<-hK];unfold EN;exact⟨t4,_,t6,t7,t8,t9,Yw,YE,YF,YL,Yz,YK,Yy,rfl,KS,(λ_=>rfl),Zs,Zw,Zx,Zy,kI,kK,kT,kO,kS,kJ,kP,kV,kL⟩
  .simp only[Ah,Ai,Af,AZ]at ho;subst ho;have q0:l.getD 0 false=true:=BJ ⟨0,.data⟩ Ze rfl;clear BJ;obtain rfl:=f0 q0;refine Au rfl rfl ?_;generalize hK:EN w k1 n1 ki na (l.setIfInBounds 1 true)=K;go_simp;rw[<-hK];unfold EN;exact⟨t4,_,_,t7,t8,t9,Yw,YE,YF,YL,Yz,YK,Yy,rfl,KS,Zu,(λ_=>rfl),Zw,Zx,Zy,kI,kK,kT,kO,kS,kJ,kP,kV,kL⟩
  .simp only[Ah,Ai,Af,AZ]at ho;subst ho;clear BJ;refine Au rfl rfl ?_;generalize hK:EN w k1 n1 ki na (l.setIfInBounds 2 true)=K;go_simp;rw[<-hK];unfold EN;exact⟨t4,t5,t6,_,t8,t9,Yw,YE,YF,YL,Yz,YK,Yy,rfl,KS,Zu,Zs,(λ_=>rfl),Zx,Zy,kI,kK,kT,kO,kS,kJ,kP,kV,kL⟩
  .simp only[Ah,Ai,Af,AZ]at ho;subst ho;have q2:l.getD 2 false=true:=BJ ⟨2,.data⟩ Ze rfl;clear BJ;obtain rfl:=f2 q2;refine Au rfl rfl ?_;generalize hK:EN w k1 n1 ki na (l.setIfInBounds 3 true)=K;go_simp;rw[<-hK];unfold EN;exact⟨t4,t5,t6,_,_,t9,Yw,YE,YF,YL,Yz,YK,Yy,rfl,KS,Zu,Zs,Zw,(λ_=>rfl),Zy,kI,kK,kT,kO,kS,kJ,kP,kV,kL⟩
  .simp only[Ah,Ai,Af,AZ]at ho;subst ho;have q1:l.getD 1 false=true:=BJ ⟨1,.data⟩ Ze rfl;have q3:l.getD 3 false=true:=BJ ⟨3,.data⟩ Ze rfl;clear BJ;obtain rfl:=f1 q1;obtain rfl:=f3 q3;refine Au rfl rfl ?_;generalize hK:EN w k1 n1 ki na (l.setIfInBounds 4 true)=K;go_simp;go_at_call 117;refine(PB _ _ _).mono ?_;rintro e w1 ⟨rfl,rfl⟩;rw[<-hK];unfold EN;exact⟨t4,t5,_,t7,_,_,Yw,YE,YF,YL,Yz,YK,Yy,rfl,KS,Zu,Zs,Zw,Zx,(λ_=>rfl),kI,kK,kT,kO,kS,kJ,kP,kV,kL⟩
  .simp only[Ah,Ai,Af,AZ]at ho;subst ho;clear BJ;refine Au rfl rfl ?_;generalize hK:EN w k1 n1 ki na (l.setIfInBounds 5 true)=K;go_simp;rw[<-hK];unfold EN;exact⟨t4,t5,t6,t7,t8,t9,_,YE,YF,YL,Yz,YK,Yy,rfl,KS,Zu,Zs,Zw,Zx,Zy,(λ_=>rfl),kK,kT,kO,kS,kJ,kP,kV,kL⟩
  .simp only[Ah,Ai,Af,AZ]at ho;subst ho;have q5:l.getD 5 false=true:=BJ ⟨5,.data⟩ Ze rfl;clear BJ;obtain rfl:=f5 q5;refine Au rfl rfl ?_;generalize hK:EN w k1 n1 ki na (l.setIfInBounds 6 true)=K;go_simp;rw[<-hK];unfold EN;exact⟨t4,t5,t6,t7,t8,t9,_,_,YF,YL,Yz,YK,Yy,rfl,KS,Zu,Zs,Zw,Zx,Zy,kI,(λ_=>rfl),kT,kO,kS,kJ,kP,kV,kL⟩
  .simp only[Ah,Ai,Af,AZ]at ho;subst ho;clear BJ;refine Au rfl rfl ?_;generalize hK:EN w k1 n1 ki na (l.setIfInBounds 7 true)=K;go_simp;rw[<-hK];unfold EN;exact⟨t4,t5,t6,t7,t8,t9,Yw,YE,_,YL,Yz,YK,Yy,rfl,KS,Zu,Zs,Zw,Zx,Zy,kI,kK,(λ_=>rfl),kO,kS,kJ,kP,kV,kL⟩
  .simp only[Ah,Ai,Af,AZ]at ho;subst ho;have q7:l.getD 7 false=true:=BJ ⟨7,.data⟩ Ze rfl;clear BJ;obtain rfl:=f7 q7;refine Au rfl rfl ?_;generalize hK:EN w k1 n1 ki na (l.setIfInBounds 8 true)=K;go_simp;rw[<-hK];unfold EN;exact⟨t4,t5,t6,t7,t8,t9,Yw,YE,_,_,Yz,YK,Yy,rfl,KS,Zu,Zs,Zw,Zx,Zy,kI,kK,kT,(λ_=>rfl),kS,kJ,kP,kV,kL⟩
  .simp only[Ah,Ai,Af,AZ]at ho;subst ho;have q6:l.getD 6 false=true:=BJ ⟨6,.data⟩ Ze rfl;have q8:l.getD 8 false=true:=BJ ⟨8,.data⟩ Ze rfl;clear BJ;obtain rfl:=f6 q6;obtain rfl:=f8 q8;refine Au rfl rfl ?_;generalize hK:EN w k1 n1 ki na (l.setIfInBounds 9 true)=K;go_simp;go_at_call 117;refine(PB _ _ _).mono ?_;rintro e w1 ⟨rfl,rfl⟩;rw[<-hK];unfold EN;exact⟨t4,t5,t6,t7,t8,t9,Yw,_,YF,_,_,YK,Yy,rfl,KS,Zu,Zs,Zw,Zx,Zy,kI,kK,kT,kO,(λ_=>rfl),kJ,kP,kV,kL⟩
  .simp only[Ah,Ai,Af,AZ]at ho;subst ho;have q4:l.getD 4 false=true:=BJ ⟨4,.data⟩ Ze rfl;have q9:l.getD 9 false=true:=BJ ⟨9,.data⟩ Ze rfl;clear BJ;obtain rfl:=f4 q4;obtain rfl:=f9 q9;obtain rfl:=f13 FH;refine Au rfl rfl ?_;generalize hK:EN w k1 n1 ki na (l.setIfInBounds 10 true)=K;go_simp;rw[<-hK];unfold EN;exact⟨t4,t5,t6,t7,t8,_,Yw,YE,YF,YL,_,_,Yy,rfl,KS,Zu,Zs,Zw,Zx,Zy,kI,kK,kT,kO,kS,(λ_=>⟨Ze,rfl⟩),kP,kV,(λh=>absurd (ki'.symm.trans h) Zb)⟩
  .simp only[Ah,Ai,Af,AZ]at ho;subst ho;have q10:l.getD 10 false=true:=BJ ⟨10,.data⟩ Ze rfl;clear BJ;obtain⟨rfl,rfl⟩:=f10 q10;refine Au rfl rfl ?_;generalize hK:EN w k1 n1 ki na (l.setIfInBounds 11 true)=K;go_simp;go_at_call 116;refine(Aby (Iu k1 ki) (Iu n1 na) _ _ _ (by have h:=Al ((w.alloc (.cells #[.s k1,.s n1] 89)).alloc (.cells #[.s ki,.s na] 89)) #[.i (Iu k1 ki),.i (Iu n1 na)] 3 0;simpa using h) (by have h:=Al ((w.alloc (.cells #[.s k1,.s n1] 89)).alloc (.cells #[.s ki,.s na] 89)) #[.i (Iu k1 ki),.i (Iu n1 na)] 3 1;simpa using h)).mono ?_;rintro e w1 ⟨rfl,rfl⟩;rw[<-hK];unfold EN;exact⟨t4,t5,t6,t7,t8,t9,Yw,YE,YF,YL,Yz,_,_,rfl,KS,Zu,Zs,Zw,Zx,Zy,kI,kK,kT,kO,kS,kJ,(λ_=>rfl),kV,kL⟩
  .simp only[Ah,Ai,Af,AZ]at ho;subst ho;have q11:l.getD 11 false=true:=BJ ⟨11,.data⟩ Ze rfl;clear BJ;obtain rfl:=f11 q11;refine Au rfl rfl ?_;generalize hK:EN w k1 n1 ki na (l.setIfInBounds 12 true)=K;go_simp;rw[<-hK];unfold EN;exact⟨_,t5,t6,t7,t8,t9,Yw,YE,YF,YL,Yz,YK,_,rfl,KS,Zu,Zs,Zw,Zx,Zy,kI,kK,kT,kO,kS,kJ,kP,(λ_=>rfl),kL⟩
def AX (t:Nat->Value)(i:Nat)(v:Value):Nat->Value:=λj=>bif j==i then v else t j
theorem BP (h:¬j=i):AX t i v j=t j:=by
 have:(j==i)=false:=by simpa using h
 simp[AX,this]
theorem Cf:AX t i v i=v:=by simp[AX]
def Ci (ops:Array Oper)(i j:Nat):Prop:=∃o,ops[i]?=some o/\∃e∈o.after,Region.binds .any e=true/\e.on=j
theorem AR (h:(match ops[i]? with|some o=>o.after.toList.any (λe=>Region.binds .any e&&e.on==j)|none=>false)=true):Ci ops i j:=by cases ho:ops[i]? with
 |none=>rw[ho]at h;cases h
 |some o=>rw[ho]at h;obtain⟨e,he,h2⟩:=List.any_eq_true.1 h;simp only[As,beq_iff_eq]at h2;exact⟨o,ho,e,by simpa using he,h2.1,h2.2⟩
theorem sg{P:Prop}(h:P:=by have h:=hK _ X rfl Dx;refine Au rfl rfl ?_;clear hK hg;go_simp;first|simpa[AX,ea,eb,ec,ed,ee]using h|simpa[AX,ea,eb,ec,ed]using h|simpa[AX,ea,eb,ec]using h|simpa[AX,ea,eb]using h|simpa[AX,ea]using h|simpa[AX]using h):P:=h
def RG (n:Nat)(mk:(Nat->Value)->Array Value)(W:World)(G:Nat->Value->World->Prop)(Fin:Act->World->Prop)(l:Array Bool)(a:Act)(X:World):Prop:=l.size=n+1/\((l.getD n false=true->(∀i,i<n+1->l.getD i false=true)/\Fin a X)/\(l.getD n false=false->∃t:Nat->Value,a=⟨mk t,[]⟩/\Below W.1.size W X/\∀i,i<n->l.getD i false=true->G i (t i) X))
theorem NK (hm:P.follows .mixedOrders=true)(n:Nat)(mk:(Nat->Value)->Array Value)(t0:Nat->Value)(G:Nat->Value->World->Prop)(Fin:Act->World->Prop)(hn:ops.size=n+1)(Fj:((List.range ops.size).all λi=>match ops[i]? with|some o=>o.after.all (λe=>decide (e.on<i))|none=>true)=true)(Jq:((List.range n).all λj=>match ops[n]? with|some o=>o.after.any (λe=>Region.binds .any e&&e.on==j)|none=>false)=true)(st:∀i v X Y,i<n->G i v X->Below X.1.size X Y->G i v Y)(h0:a0=⟨mk t0,[]⟩)(sg:∀i,i<n->∀(t:Nat->Value) X K,Below W.1.size W X->(∀j,Ci ops i j->G j (t j) X)->(∀v Y,G i v Y->Below X.1.size X Y->K ⟨mk (AX t i v),[]⟩ Y)->wpOp P ops Q i K ⟨mk t,[]⟩ X)(sl:∀(t:Nat->Value) X K,Below W.1.size W X->(∀j,j<n->G j (t j) X)->(∀a Y,Fin a Y->K a Y)->wpOp P ops Q n K ⟨mk t,[]⟩ X)(G7:∀a X,Fin a X->Q .normal a X):(Code.region id ops true).wp P Q a0 W:=by
 have BJ:∀i j,i<n+1->Ci ops i j->j<n:=by exact c_
 refine Dk hm (RG n mk W G Fin) ?_ ?_ ?_ ?_
 .have hz:∀i,(Array.replicate ops.size false).getD i false=false:=λi=>by simp[Array.getD]
  refine⟨by simp[hn],λh=>?_,λ_=>⟨t0,h0,(Ap _ _).drew,λi _ h=>?_⟩⟩<;>(rw[hz]at h;cases h)
 .exact RH
 .rintro l a X ⟨hs,h6,_⟩ hr;exact yP
 .rintro l a X i ⟨hs,h6,hg⟩ hr;obtain⟨hu,o,ho,Bg⟩:=mem_ready.1 hr;have di:∀j,Ci ops i j->l.getD j false=true:=by exact WQ
  have LA:i<n+1:=by exact Z8
  have FH:l.getD i false=false:=by exact Vd
  have l6:l.getD n false=false:=by cases h:l.getD n false with
   |false=>rfl
   |true=>rw[(h6 h).1 i LA]at FH;cases FH
  obtain⟨t,rfl,hb,gg⟩:=hg l6;have kp:∀j,¬j=i->(l.setIfInBounds i true).getD j false=l.getD j false:=λj hj=>by rw[Cq Za,if_neg hj]
  have ki:(l.setIfInBounds i true).getD i false=true:=by rw[Cq Za,if_pos rfl]
  have hs':(l.setIfInBounds i true).size=n+1:=by simp[hs]
  have ku:∀j,l.getD j false=true->(l.setIfInBounds i true).getD j false=true:=λj h=>by exact Pm
  by_cases Cs:i=n
  .subst Cs;have al:∀j,j<i->l.getD j false=true:=λj hj=>by have h1:=Bz.1 Jq j (BF.2 hj);rw[ho]at h1;exact db
   clear hr hu ho h6 hg;refine sl t X _ hb (λj hj=>gg j hj (al j hj)) (λa Y hY=>⟨hs',λ_=>⟨λj hj=>?_,hY⟩,λh=>?_⟩);.exact XU
   .rw[ki]at h;cases h
  .clear hr hu ho h6 hg;have LI:(l.setIfInBounds i true).getD n false=false:=by rw[kp n (λe=>Cs e.symm)];exact l6
   refine sg i Za t X _ hb (λj hj=>gg j (BJ i j LA hj) (di j hj)) (λv Y hv hY=>⟨hs',λh=>?_,λ_=>⟨AX t i v,rfl,hb.trans (hY.mono hb.size),λj j1 h=>?_⟩⟩);.rw[LI]at h;cases h
   .by_cases e:j=i;.exact RJ
    .rw[kp j e]at h;rw[BP e];exact st _ _ _ _ j1 (gg j j1 h) hY
theorem Vn{ops:Array Oper}{n:Nat}(gI:((List.range n).all λj=>(List.range (n+1)).any λk=>match ops[k]? with|some o=>decide (j<k)&&o.after.any (λe=>Region.binds .any e&&e.on==j)|none=>false)=true){f:Nat->Prop}(Li:∀i j,Ci ops i j->f i->f j)(hn:∀j,Ci ops n j->f j):∀m j,n<=j+m->j<n->f j
 |0,j,h,hj=>by omega
 |m+1,j,h,hj=>by have h1:=Bz.1 gI j (BF.2 hj);obtain⟨k,hk,h2⟩:=List.any_eq_true.1 h1;have hk':=BF.1 hk;cases ho:ops[k]? with
  |none=>rw[ho]at h2;cases h2
  |some o=>
   rw[ho]at h2;simp only[As,decide_eq_true_eq]at h2;obtain⟨q,hq,h3⟩:=KC.1 h2.2;simp only[As,beq_iff_eq]at h3;have hw:Ci ops k j:=⟨o,ho,o.after[q],KD hq,h3.1,h3.2⟩;by_cases B7:k=n;.subst B7;exact hn j hw
   .exact Li k j hw (Vn gI Li hn m k Za Za)
theorem IT (Fj:((List.range ops.size).all λi=>match ops[i]? with|some o=>o.after.all (λe=>!(Region.binds .any e)||decide (e.on<i))|none=>true)=true)(hs:l.size=ops.size)(hr:Region.ready .any ops l=[]):∀i,i<ops.size->l.getD i false=true:=by
 have conv:∀i,i<ops.size->l.getD i true=l.getD i false:=λi hi=>by simp[Array.getD,hs,hi]
 intro i;induction i using Nat.strongRecOn with
 |_ i ih=>intro hi;cases hg:l.getD i false with
  |true=>rfl
  |false=>
   have hm:i∈Region.ready .any ops l:=by
    rw[mem_ready];refine⟨(conv i hi).trans hg,ops[i],by simp[hi],λe he YB=>?_⟩;have h1:=Bz.1 Fj i Zci;simp only[FL hi]at h1;have h2:=(BO.1 h1) e he;rw[YB]at h2;have h3:e.on<i:=by simpa using h2
    exact ih e.on h3 Za
   rw[hr]at hm;cases hm
theorem Xv (hm:P.follows .mixedOrders=true)(n:Nat)(mk:(Nat->Value)->Array Value)(t0:Nat->Value)(I:(Nat->Bool)->(Nat->Value)->World->Prop)(hn:ops.size=n)(Fj:((List.range ops.size).all λi=>match ops[i]? with|some o=>o.after.all (λe=>!(Region.binds .any e)||decide (e.on<i))|none=>true)=true)(h0:a0=⟨mk t0,[]⟩)(hI:∀f:Nat->Bool,(∀i,f i=false)->I f t0 W.drew)(sg:∀i,i<n->∀(f:Nat->Bool)(t:Nat->Value) X K,I f t X->f i=false->(∀j,Ci ops i j->f j=true)->(∀p j,Ci ops p j->f p=true->f j=true)->(∀v Y,(∀g:Nat->Bool,g i=true->(∀j,¬j=i->g j=f j)->I g (AX t i v) Y)->K ⟨mk (AX t i v),[]⟩ Y)->wpOp P ops Q i K ⟨mk t,[]⟩ X)(G7:∀(f:Nat->Bool) t X,(∀i,i<n->f i=true)->I f t X->Q .normal ⟨mk t,[]⟩ X):(Code.region id ops true).wp P Q a0 W:=by
 refine Dk hm (λl a X=>l.size=n/\(∀p j,Ci ops p j->l.getD p false=true->l.getD j false=true)/\∃t,a=⟨mk t,[]⟩/\I (λi=>l.getD i false) t X) ?_ ?_ ?_ ?_
 .have hz:∀i,(Array.replicate ops.size false).getD i false=false:=λi=>by simp[Array.getD]
  exact⟨by simp[hn],λp j _ h=>(by rw[hz]at h;cases h),t0,h0,hI _ hz⟩
 .exact RH
 .rintro l a X ⟨hs,_,t,rfl,h⟩ hr;exact G7 _ t X (λi hi=>IT Fj Zcn hr i Za) h
 .rintro l a X i ⟨hs,Li,t,rfl,h⟩ hr;obtain⟨hu,o,ho,Bg⟩:=mem_ready.1 hr;have di:∀j,Ci ops i j->l.getD j false=true:=by exact WQ
  have LA:i<n:=by exact zU
  have FH:l.getD i false=false:=by exact Vd
  have ki:(l.setIfInBounds i true).getD i false=true:=by rw[Cq Za,if_pos rfl]
  have kp:∀j,¬j=i->(l.setIfInBounds i true).getD j false=l.getD j false:=λj hj=>by rw[Cq Za,if_neg hj]
  have ku:∀j,l.getD j false=true->(l.setIfInBounds i true).getD j false=true:=λj h=>by exact Pm
  refine sg i LA _ t X _ h FH di Li (λv Y hY=>⟨by simp[hs],λp j hj h=>?_,AX t i v,rfl,hY _ ki kp⟩);exact fJ
theorem mr (hm:P.follows .mixedOrders=true)(n:Nat)(mk:(Nat->Value)->Array Value)(t0:Nat->Value)(I:(Nat->Bool)->(Nat->Value)->World->Prop)(hn:ops.size=n)(Fj:((List.range ops.size).all λi=>match ops[i]? with|some o=>o.after.all (λe=>!(Region.binds .any e)||decide (e.on<i))|none=>true)=true)(h0:a0=⟨mk t0,[]⟩)(hI:∀f:Nat->Bool,(∀i,f i=false)->I f t0 W.drew)(sg:∀i,i<n->∀(f:Nat->Bool)(t:Nat->Value) X K,I f t X->f i=false->(∀j,Ci ops i j->f j=true)->(∀v Y,(∀g:Nat->Bool,g i=true->(∀j,¬j=i->g j=f j)->I g (AX t i v) Y)->K ⟨mk (AX t i v),[]⟩ Y)->wpOp P ops Q i K ⟨mk t,[]⟩ X)(G7:∀(f:Nat->Bool) t X,(∀i,i<n->f i=true)->I f t X->Q .normal ⟨mk t,[]⟩ X):(Code.region id ops true).wp P Q a0 W:=Xv hm n mk t0 I hn Fj h0 hI (λi hi f t X K h1 h2 h3 _ h5=>sg i hi f t X K h1 h2 h3 h5) G7
end Go.Proofs.YtdknjmgdgnmhjaaGreat
