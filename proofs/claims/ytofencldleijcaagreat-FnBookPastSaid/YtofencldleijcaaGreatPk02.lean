import Derived.Test.YtofencldleijcaaGreatPk01
import Derived.Orders
set_option maxRecDepth 100000
set_option maxHeartbeats 2000000
namespace Go.Proofs.YtofencldleijcaaGreat
open Go.RowKit Go.Proofs.Tryz
theorem Am (w:World)(o:Obj):Below w.1.size w (w.alloc o):=(Al _ _).alloc Bg o
def UH (n:Nat)(s:Nat->ByteArray):Bool:=Be (λi=>i==0||ER (s (i-1)) (s i)) n
theorem Jv (n:Nat)(s:Nat->ByteArray):OB n s=(UH n s&&Be (λi=>By (s i)) n):=by
 rw[Bool.eq_iff_iff,Ak];unfold OB UH;rw[AC,AC,AC];constructor;.intro h;exact⟨λi hi=>by have:=h i hi;simp only[Ak]at this;exact this.2,λi hi=>by have:=h i hi;simp only[Ak]at this;exact this.1⟩
 .intro h i hi;rw[Ak];exact⟨h.2 i hi,h.1 i hi⟩
theorem QC (n:Nat)(s:Nat->ByteArray)(ad:OA)(cap:Nat)(w:World)(lo hi:Nat)(hl:(n:Int)<=140737488355328)(hc:Ax w lo hi ad n s):Calls prog 112 #[.l ad n cap,.func (.func 113) #[] #[]] w λe w'=>e=.returned (.bool (UH n s))/\∃q,w'=w.drewN q:=by
 go_enter func112,ntmps112;go_wp2;go_loopw[5](λi wr=>∃k:Nat,1<=k/\(k<=n\/k=1)/\i=.i k/\(∀j,j<k->(j==0||ER (s (j-1)) (s j))=true)/\∃q,wr=w.drewN q)(λi _=>n-(intOf i).toNat);case atStart=>exact⟨1,Az _,AD rfl,rfl,λj hj=>(by have:j=0:=Zb;subst this;rfl),0,rfl⟩
 case round=>
  obtain⟨k,hk1,hk,rfl,hall,q,hq⟩:=hrel;have HQ:=Ag hq;by_cases hkn:k<n
  .obtain⟨m,rfl⟩:∃m,k=m+1:=⟨k-1,Zb⟩;obtain⟨b,off,rfl,hlo,hbh,hcx0⟩:=hc (m+1) hkn;obtain⟨b',off',e,_,_,hcy0⟩:=hc m Zb;cases e;have hcx:wr.cell? ⟨b,off+(m+1),none⟩=some (.s (s (m+1))):=by rw[hq];exact hcx0
   have hcy:wr.cell? ⟨b,off+m,none⟩=some (.s (s m)):=by rw[hq];exact hcy0
   have HA:=Ag hall;have hkz:(m:Int)+1<=n:=Zb;clear hall hcx0 hcy0 hc hq hk;cases hlt:ER (s m) (s (m+1))with
   |false=>have HE:=Ag (AV (p:=λi=>i==0||ER (s (i-1)) (s i)) hkn (by simp[hlt]));go_wp2;go_quiet((go_at_call 113;go_must(exact E0 (JS _ _ _))));go_wp2;go_ret;exact⟨Av HE.symm,Mf HQ⟩
   |true=>
    have HN:=Ag (show(m+1==0||ER (s (m+1-1)) (s (m+1)))=true by simp[hlt]);go_wp2;go_quiet((go_at_call 113;go_must(exact E0 (JS _ _ _))));go_wp2;go_roundw;case rel=>exact⟨m+2,Zb,AO Zb,by go_num,λj hj=>(by
     rcases At j (m+1)with h3|h3;.exact HA j h3
     .have:j=m+1:=Zb;subst this;exact HN),Mf HQ⟩
    case measure=>simp[intOf];omega
  .have HE:=Ag (AC.2 (λi hi=>hall i Zb):UH n s=true);clear hall hc hq hk;go_wp2;go_ret;exact⟨Av HE.symm,q,HQ⟩
def DP (n:Nat)(s:Nat->ByteArray):Bool:=decide (n<=5)&&OB n s
theorem Pq (n:Nat)(s:Nat->ByteArray)(ad:OA)(cap:Nat)(w:World)(lo hi:Nat)(hl:(n:Int)<=140737488355328)(hm:∀i,i<n->((s i).size:Int)<=140737488355328)(hc:Ax w lo hi ad n s):Calls prog 101 #[.l ad n cap] w λe w'=>e=.returned (.bool (DP n s))/\∃q,w'=w.drewN q:=by
 by_cases h5:(5:Int)<n;.have HE:=Ag (show DP n s=false by unfold DP;rw[decide_eq_false Zb];rfl);go_enter func101,ntmps101;go_wp2;go_ret;exact⟨Av HE.symm,0,rfl⟩
 cases ha:UH n s with
 |false=>have HE:=Ag (show DP n s=false by unfold DP;rw[Jv,ha];simp);go_enter func101,ntmps101;go_wp2_with (go_at_call 112;refine(QC n s ad cap _ lo hi hl hc).mono ?_;rintro e w1 ⟨rfl,q,rfl⟩);go_ret;exact⟨Av HE.symm,_,rfl⟩
 |true=>
  have eI:=Ag ha;go_enter func101,ntmps101;go_wp2_with (go_at_call 112;refine(QC n s ad cap _ lo hi hl hc).mono ?_;rintro e w1 ⟨rfl,q0,rfl⟩);go_loop[15](λi=>∃k:Nat,k<=n/\i=.i k/\∀j,j<k->By (s j)=true)(λi=>n-(intOf i).toNat);case atStart=>exact⟨0,Aw _,rfl,λj hj=>absurd hj (Ai _)⟩
  case round=>
   obtain⟨k,hk,rfl,hall⟩:=hrel;by_cases hkn:k<n;.obtain⟨b,off,rfl,hlo,hbh,hcx⟩:=hc k hkn;have hmk:=hm k hkn;have HA:=Ag hall;clear hall hc hm ha;cases hn:By (s k)with
    |false=>have HE:=Ag (show DP n s=false by unfold DP;rw[Jv,AV (p:=λi=>By (s i)) hkn hn];simp);go_wp2_with (go_at_call 100;refine(Gc _ _ hmk).mono ?_;rintro e w1 ⟨rfl,rfl⟩);go_ret;exact⟨Av HE.symm,_,rfl⟩
    |true=>
     have HN:=Ag hn;go_wp2_with (go_at_call 100;refine(Gc _ _ hmk).mono ?_;rintro e w1 ⟨rfl,rfl⟩);go_round;case rel=>exact⟨k+1,Zb,by go_num,λj hj=>(by
      rcases At j k with h3|h3;.exact HA j h3
      .have:j=k:=Zb;subst this;exact HN)⟩
     case measure=>simp[intOf];omega
   .have HE:=Ag (show DP n s=true by unfold DP;rw[Jv,eI.out,decide_eq_true (show n<=5 by omega),AC.2 (λi hi=>hall i Zb)];rfl);clear hall hc hm ha;go_wp2;go_ret;exact⟨Av HE.symm,_,rfl⟩
def CJ (x:Ob):Bool:=!x.ending||decide (0<x.hn)
def JZ (x:Ob):Bool:=x.ending&&(decide (x.hn=0)&&decide (x.born<x.ver))
theorem Ld (x:Ob)(ad:OA)(cap:Nat)(w:World)(hl:(x.hn:Int)<=140737488355328):Calls prog 75 #[.agg (vO x ad cap)] w λe w'=>e=.returned (.bool (CJ x))/\Below w.1.size w w':=by obtain⟨ki,na,ve,bo,te,en,hn,hs⟩:=x;dsimp only at hl⊢;cases en with
 |false=>go_enter func75,ntmps75;go_wp2;go_ret;exact⟨rfl,Am _ _⟩
 |true=>go_enter func75,ntmps75;go_wp2;go_ret;refine⟨Av ?_,Am _ _⟩;simp[CJ]
theorem Oz (x:Ob)(ad:OA)(cap:Nat)(w:World)(hl:(x.hn:Int)<=140737488355328):Calls prog 102 #[.agg (vO x ad cap)] w λe w'=>e=.returned (.bool (JZ x))/\Below w.1.size w w':=by obtain⟨ki,na,ve,bo,te,en,hn,hs⟩:=x;dsimp only at hl⊢;cases en with
 |false=>go_enter func102,ntmps102;go_wp2;go_ret;exact⟨rfl,Am _ _⟩
 |true=>
  rcases BF hn with rfl|hp;.go_enter func102,ntmps102;go_wp2;go_ret;exact⟨Av (by simp[JZ]),Am _ _⟩
  .have he:((hn:Int)==0)=false:=Zd;have HE:=Ag (show JZ ⟨ki,na,ve,bo,te,true,hn,hs⟩=false by simp[JZ];omega);go_enter func102,ntmps102;go_wp2;go_ret;exact⟨Av HE.symm,Am _ _⟩
def D8 (x z:Ob):Int:=if ER x.kind z.kind then-1 else if x.kind.toList=z.kind.toList then(if ER x.name z.name then-1 else if x.name.toList=z.name.toList then 0 else 1)else 1
def CN (x z:Ob):Bool:=if x.kind.toList=z.kind.toList then ER x.name z.name else ER x.kind z.kind
theorem Nf{P:Prop}(h:P:=by go_enter func60,ntmps60;go_wp2;go_ret;exact⟨IE HE.symm,HB _ _⟩):P:=h
theorem MU (x z:Ob)(ad ad2:OA)(cap cap2:Nat)(w:World):Calls prog 60 #[.agg (vO x ad cap),.agg (vO z ad2 cap2)] w λe w'=>e=.returned (.i (D8 x z))/\Below w.1.size w w':=by have hB:∀o1 o2:Obj,Below w.1.size w ((w.alloc o1).alloc o2):=λo1 o2=>(Am _ _).alloc Zc _;have HB:=Ag hB;clear hB;cases h1:ER x.kind z.kind with
 |true=>have HE:=Ag (show D8 x z=-1 by unfold D8;rw[h1];rfl);have h1':Op.bytesLess x.kind.toList z.kind.toList=true:=h1;clear h1;exact Nf
 |false=>
  have h1':Op.bytesLess x.kind.toList z.kind.toList=false:=h1;by_cases h2:x.kind.toList=z.kind.toList
  .have h2':(x.kind.toList==z.kind.toList)=true:=by simp[h2]
   cases h3:ER x.name z.name with
   |true=>have HE:=Ag (show D8 x z=-1 by unfold D8;rw[h1,if_pos h2,h3];rfl);have h3':Op.bytesLess x.name.toList z.name.toList=true:=h3;clear h1 h2 h3;exact Nf
   |false=>
    have h3':Op.bytesLess x.name.toList z.name.toList=false:=h3;by_cases h4:x.name.toList=z.name.toList
    .have HE:=Ag (show D8 x z=0 by unfold D8;rw[h1,if_pos h2,h3,if_pos h4];rfl);have h4':(x.name.toList==z.name.toList)=true:=by simp[h4]
     clear h1 h2 h3 h4;exact Nf
    .have HE:=Ag (show D8 x z=1 by unfold D8;rw[h1,if_pos h2,h3,if_neg h4];rfl);have h4':(x.name.toList==z.name.toList)=false:=by simp[h4]
     clear h1 h2 h3 h4;exact Nf
  .have HE:=Ag (show D8 x z=1 by unfold D8;rw[h1,if_neg h2];rfl);have h2':(x.kind.toList==z.kind.toList)=false:=by simp[h2]
   clear h1 h2;exact Nf
theorem UM{P:Program}{ops:Array Oper}{Q:Exit->Act->World->Prop}{i:Nat}{K K':Act->World->Prop}{a:Act}{w:World}(h:∀a w,K a w->K' a w)(hh:wpOp P ops Q i K a w):wpOp P ops Q i K' a w:=by
 unfold wpOp at*;split at hh;.exact h _ _ hh
 .split at hh;.next hw=>
   rw[if_pos hw];rcases hh with hh|hh;.exact AO (Oper.wp_mono h hh)
   .exact AD hh
  .next hw=>rw[if_neg hw];exact h _ _ hh
def VA (l:Array Bool):Nat->Nat
 |0=>0
 |n+1=>VA l n+(if l.getD n true then 0 else 1)
theorem BM{l:Array Bool}{i j:Nat}(hi:i<l.size)(d:Bool):(l.setIfInBounds i true).getD j d=if j=i then true else l.getD j d:=by
 by_cases h:j=i;.subst h;simp[Array.getD,hi]
 .rw[if_neg h,Array.getD_eq_getD_getElem?,Array.getD_eq_getD_getElem?,Array.getElem?_setIfInBounds,if_neg (λe=>h e.symm)]
theorem T2{l:Array Bool}{i:Nat}(hi:i<l.size):∀n,VA (l.setIfInBounds i true) n<=VA l n
 |0=>Az _
 |n+1=>by
  unfold VA;have h:=T2 hi n;rw[BM hi];by_cases e:n=i;.rw[if_pos e];simp;split<;>omega
  .rw[if_neg e];omega
theorem S3{l:Array Bool}{i:Nat}(hi:i<l.size)(h0:l.getD i true=false):∀n,i<n->VA (l.setIfInBounds i true) n<VA l n
 |0,h=>absurd h (Ai _)
 |n+1,h=>by
  unfold VA;rw[BM hi];by_cases e:n=i;.subst e;have:=T2 hi n;rw[if_pos rfl,h0];simp;omega
  .have:=S3 hi h0 n Zb;rw[if_neg e];omega
theorem Nd{l:Array Bool}:∀{n:Nat},VA l n=0->∀i,i<n->l.getD i true=true
 |0,_,i,h=>absurd h (Ai _)
 |n+1,h0,i,h=>by
  unfold VA at h0;by_cases e:i=n;.subst e;cases hg:l.getD i true with
   |true=>rfl
   |false=>rw[hg]at h0;simp at h0
  .exact Nd (n:=n) Zb i Zb
theorem SA (l:Array Bool):∀n,VA l n<=n
 |0=>Az _
 |n+1=>by unfold VA;have:=SA l n;split<;>omega
theorem O7{P:Program}{md:Region.Mode}{ops:Array Oper}{Q:Exit->Act->World->Prop}(Inv:Array Bool->Act->World->Prop)(hsz:∀l a w,Inv l a w->l.size=ops.size)(hdone:∀l a w,Inv l a w->Region.ready md ops l=[]->Q .normal a w)(hstep:∀l a w i,Inv l a w->i∈Region.ready md ops l->wpOp P ops Q i (Inv (l.setIfInBounds i true)) a w):∀fuel l a w,Inv l a w->VA l ops.size<=fuel->wpAny P md ops Q fuel l a w
 |0,l,a,w,hI,hc=>by
  have hr:Region.ready md ops l=[]:=by
   rw[List.eq_nil_iff_forall_not_mem];intro i hi;have h1:=(BL.1 hi);have h2:i<ops.size:=by simpa using h1.1
   have h3:=h1.2;rw[Nd Zb i h2]at h3;simp at h3
  exact⟨hr,hdone l a w hI hr⟩
 |fuel+1,l,a,w,hI,hc=>by
  refine⟨λhr=>hdone l a w hI hr,λi hi=>?_⟩;have h1:=(BL.1 hi);have h2:i<ops.size:=by simpa using h1.1
  have h3:l.getD i true=false:=by have h4:=h1.2;simp only[Ak]at h4;simpa using h4.1
  have hs:=hsz l a w hI;have h5:=S3 (l:=l) (i:=i) Zb h3 ops.size h2;exact UM (λa' w' hI'=>O7 Inv hsz hdone hstep fuel _ a' w' hI' Zb) (hstep l a w i hI hi)
theorem CA{P:Program}{id:Nat}{ops:Array Oper}{Q:Exit->Act->World->Prop}{a:Act}{w:World}(hm:P.follows .mixedOrders=true)(Inv:Array Bool->Act->World->Prop)(h0:Inv (Array.replicate ops.size false) a w.drew)(hsz:∀l a w,Inv l a w->l.size=ops.size)(hdone:∀l a w,Inv l a w->Region.ready .any ops l=[]->Q .normal a w)(hstep:∀l a w i,Inv l a w->i∈Region.ready .any ops l->wpOp P ops Q i (Inv (l.setIfInBounds i true)) a w):(Code.region id ops true).wp P Q a w:=wp_region_any hm (O7 Inv hsz hdone hstep _ _ _ _ h0 (SA _ _))
theorem CC{ops:Array Oper}{l:Array Bool}(hord:((List.range ops.size).all λi=>match ops[i]? with|some o=>o.after.all (λe=>decide (e.on<i))|none=>true)=true)(hs:l.size=ops.size)(hr:Region.ready .any ops l=[]):∀i,i<ops.size->l.getD i false=true:=by
 have conv:∀i,i<ops.size->l.getD i true=l.getD i false:=λi hi=>by simp[Array.getD,hs,hi]
 intro i;induction i using Nat.strongRecOn with
 |_ i ih=>intro hi;cases hg:l.getD i false with
  |true=>rfl
  |false=>
   have hm:i∈Region.ready .any ops l:=by
    rw[mem_ready];refine⟨(conv i hi).trans hg,ops[i],by simp[hi],λe he _=>?_⟩;have h1:=Bt.1 hord i (by simpa using hi);simp only[DF hi]at h1;have h2:=(A9.1 h1) e he;have h3:e.on<i:=by simpa using h2
    exact ih e.on h3 Zb
   rw[hr]at hm;cases hm
theorem Ar{P:Program}{ops:Array Oper}{Q:Exit->Act->World->Prop}{i:Nat}{K:Act->World->Prop}{a:Act}{w:World}{o:Oper}(ho:ops[i]?=some o)(hg:o.guard=none)(h:o.wp P a w K Q):wpOp P ops Q i K a w:=by unfold wpOp;rw[ho];simp only[Region.wanted,hg,if_true];exact AO h
theorem NU (a:ByteArray)(w:World):Calls prog 109 #[.s a] w λe w'=>e=.returned (.bool false)/\w'=w:=by go_enter func109,ntmps109;go_wp2;go_ret;exact⟨rfl,rfl⟩
def Cl (a b:ByteArray):Int:=if ER a b then-1 else if a.toList=b.toList then 0 else 1
theorem XB{P:Prop}(h:P:=by clear h2;go_enter func96,ntmps96;go_wp2_with (go_at_call 109;refine(NU _ _).mono ?_;rintro e w1 ⟨rfl,rfl⟩);go_ret;exact⟨IE HE.symm,rfl⟩):P:=h
theorem II (a b:ByteArray)(w:World):Calls prog 96 #[.s a,.s b] w λe w'=>e=.returned (.i (Cl a b))/\w'=w:=by cases h1:ER a b with
 |true=>have h1':Op.bytesLess a.toList b.toList=true:=h1;go_enter func96,ntmps96;go_wp2_with (go_at_call 109;refine(NU _ _).mono ?_;rintro e w1 ⟨rfl,rfl⟩);go_ret;exact⟨IE (by unfold Cl;rw[h1];rfl),rfl⟩
 |false=>
  have h1':Op.bytesLess a.toList b.toList=false:=h1;by_cases h2:a.toList=b.toList
  .have h2':(a.toList==b.toList)=true:=by simp[h2]
   have HE:=Ag (show Cl a b=0 by unfold Cl;rw[h1,if_pos h2];rfl);exact XB
  .have h2':(a.toList==b.toList)=false:=by simp[h2]
   have HE:=Ag (show Cl a b=1 by unfold Cl;rw[h1,if_neg h2];rfl);exact XB
def KV (k1 k2:Int):Int:=if k1=0 then k2 else k1
theorem Wa (k1 k2:Int)(b cap:Nat)(w:World)(h1:w.cell? ⟨b,0,none⟩=some (.i k1))(h2:w.cell? ⟨b,1,none⟩=some (.i k2)):Calls prog 95 #[.l (some ⟨b,0,none⟩) 2 cap] w λe w'=>e=.returned (.i (KV k1 k2))/\w'=w:=by
 go_enter func95,ntmps95;go_wp2;go_loopw[8](λi wr=>wr=w/\((i=.i 0)\/(i=.i 1/\k1=0)\/(i=.i 2/\k1=0/\k2=0)))(λi _=>2-(intOf i).toNat);case atStart=>exact⟨rfl,AO rfl⟩
 case round=>
  obtain⟨rfl,rfl|⟨rfl,e1⟩|⟨rfl,e1,e2⟩⟩:=hrel
  .by_cases e:k1=0
   .subst e;go_wp2;go_roundw;case rel=>exact⟨by first|rfl|trivial,AD (AO ⟨by go_num,by first|rfl|trivial⟩)⟩
    case measure=>simp[intOf]
   .have eb:(k1 !=0)=true:=by simp[e]
    have HE:=Ag (show KV k1 k2=k1 from if_neg e);go_wp2;go_ret;exact⟨IE HE.symm,rfl⟩
  .subst e1;by_cases e:k2=0
   .subst e;go_wp2;go_roundw;case rel=>exact⟨by first|rfl|trivial,AD (AD ⟨by go_num,by first|rfl|trivial,by first|rfl|trivial⟩)⟩
    case measure=>simp[intOf]
   .have eb:(k2 !=0)=true:=by simp[e]
    have HE:=Ag (show KV 0 k2=k2 from if_pos rfl);go_wp2;go_ret;exact⟨IE HE.symm,rfl⟩
  .subst e1 e2;go_wp2;go_ret;exact⟨IE rfl,rfl⟩
def Cc (w0:World)(k1 n1 ki na:ByteArray)(l:Array Bool)(a:Act)(w:World):Prop:=∃(t4 t5 t6 t7 t8 t9 t10 t11 t12 t13 t14 t15 t16:Value),a=⟨#[.agg #[.s k1,.s n1],.agg #[.s ki,.s na],.p (w0.1.size) 0,.p (w0.1.size+1) 0,t4,t5,t6,t7,t8,t9,t10,t11,t12,t13,t14,t15,t16],[]⟩/\l.size=13/\(l.getD 0 false=true->t5=.p (w0.1.size) 0)/\(l.getD 1 false=true->t6=.s k1)/\(l.getD 2 false=true->t7=.p (w0.1.size+1) 0)/\(l.getD 3 false=true->t8=.s ki)/\(l.getD 4 false=true->t9=.i (Cl k1 ki))/\(l.getD 5 false=true->t10=.p (w0.1.size) 1)/\(l.getD 6 false=true->t11=.s n1)/\(l.getD 7 false=true->t12=.p (w0.1.size+1) 1)/\(l.getD 8 false=true->t13=.s na)/\(l.getD 9 false=true->t14=.i (Cl n1 na))/\(l.getD 10 false=true->t15=.l (some ⟨w0.1.size+1+1,0,none⟩) 2 2/\w=(((w0.alloc (.cells #[.s k1,.s n1] 65)).alloc (.cells #[.s ki,.s na] 65)).drew.alloc (.cells #[.i (Cl k1 ki),.i (Cl n1 na)] 3)))/\(l.getD 11 false=true->t16=.i (KV (Cl k1 ki) (Cl n1 na)))/\(l.getD 12 false=true->t4=.i (KV (Cl k1 ki) (Cl n1 na)))/\(l.getD 10 false=false->w=((w0.alloc (.cells #[.s k1,.s n1] 65)).alloc (.cells #[.s ki,.s na] 65)).drew)
theorem SI (k1 n1 ki na:ByteArray)(w:World):Calls prog 58 #[.agg #[.s k1,.s n1],.agg #[.s ki,.s na]] w λe w'=>e=.returned (.i (KV (Cl k1 ki) (Cl n1 na)))/\Below w.1.size w w':=by
 go_enter func58,ntmps58;go_wp2;refine CA Ze (Cc w k1 n1 ki na) ?_ ?_ ?_ ?_;.unfold Cc;refine⟨_,_,_,_,_,_,_,_,_,_,_,_,_,rfl,Zc,?_⟩;simp
 .intro l a w' hI;obtain⟨t4,t5,t6,t7,t8,t9,t10,t11,t12,t13,t14,t15,t16,rfl,hls,_⟩:=hI;exact hls
 .intro l a w' hI hr;obtain⟨t4,t5,t6,t7,t8,t9,t10,t11,t12,t13,t14,t15,t16,rfl,hls,f0,f1,f2,f3,f4,f5,f6,f7,f8,f9,f10,f11,f12,f13⟩:=hI;have AL:=CC Ze (by rw[hls];rfl) hr;obtain rfl:=f12 (AL 12 Za);obtain rfl:=(f10 (AL 10 Za)).2;clear f0 f1 f2 f3 f4 f5 f6 f7 f8 f9 f10 f11 f12 f13 AL hr hls;go_wp2;go_ret;exact⟨rfl,((((Am _ _).alloc Zc _).drew).alloc Zd _)⟩
 .intro l a w' i hI hr;obtain⟨t4,t5,t6,t7,t8,t9,t10,t11,t12,t13,t14,t15,t16,rfl,hls,f0,f1,f2,f3,f4,f5,f6,f7,f8,f9,f10,f11,f12,f13⟩:=hI;obtain⟨hu,o',ho,hdep⟩:=mem_ready.1 hr;have hi16:i<13:=by
   rcases At i 13 with h|h;.exact h
   .rw[AP TX]at ho;cases ho
  have kp:∀j,¬j=i->(l.setIfInBounds i true).getD j false=l.getD j false:=λj hj=>by rw[BM Zb,if_neg hj]
  have ki':(l.setIfInBounds i true).getD i false=true:=by rw[BM Zb,if_pos rfl]
  have hsz':(l.setIfInBounds i true).size=13:=by simp[hls]
  have hui:l.getD i false=false:=by simpa[Array.getD,hls,hi16]using hu
  have hcell:∀j,w'.cell? ⟨w.1.size,j,none⟩=(#[.s k1,.s n1]:Array Value)[j]?/\w'.cell? ⟨w.1.size+1,j,none⟩=(#[.s ki,.s na]:Array Value)[j]?:=λj=>by cases h10:l.getD 10 false with
   |false=>rw[f13 h10];simp
   |true=>
    rw[(f10 h10).2];refine⟨?_,?_⟩;.rw[Aq _ _ _ Zd];simp
    .rw[Aq _ _ _ Zc];simp
  have p0:=(hcell 0).1;have p1:=(hcell 1).1;have s0:=(hcell 0).2;have s1:=(hcell 1).2;simp only[Ac,Ab,Aa]at p0 p1 s0 s1;clear hr hu hcell;rcases(show i=0\/i=1\/i=2\/i=3\/i=4\/i=5\/i=6\/i=7\/i=8\/i=9\/i=10\/i=11\/i=12 by omega)with rfl|rfl|rfl|rfl|rfl|rfl|rfl|rfl|rfl|rfl|rfl|rfl|rfl;.simp only[Ac,Aa,Aj]at ho;subst ho;clear hdep;refine Ar rfl rfl ?_;generalize hK:Cc w k1 n1 ki na (l.setIfInBounds 0 true)=K;go_simp;rw[<-hK];unfold Cc;exact⟨t4,_,t6,t7,t8,t9,t10,t11,t12,t13,t14,t15,t16,rfl,hsz',(λ_=>rfl),Zk,Zn,Zo,Zp,Zr,MX,MQ,MI,MO,Zu,Zv,Zw,Zx⟩
  .simp only[Ac,Ab,Aa,Aj]at ho;subst ho;have q0:l.getD 0 false=true:=hdep ⟨0,.data⟩ Zc rfl;clear hdep;obtain rfl:=f0 q0;refine Ar rfl rfl ?_;generalize hK:Cc w k1 n1 ki na (l.setIfInBounds 1 true)=K;go_simp;rw[<-hK];unfold Cc;exact⟨t4,_,_,t7,t8,t9,t10,t11,t12,t13,t14,t15,t16,rfl,hsz',Zl,(λ_=>rfl),Zn,Zo,Zp,Zr,MX,MQ,MI,MO,Zu,Zv,Zw,Zx⟩
  .simp only[Ac,Ab,Aa,Aj]at ho;subst ho;clear hdep;refine Ar rfl rfl ?_;generalize hK:Cc w k1 n1 ki na (l.setIfInBounds 2 true)=K;go_simp;rw[<-hK];unfold Cc;exact⟨t4,t5,t6,_,t8,t9,t10,t11,t12,t13,t14,t15,t16,rfl,hsz',Zl,Zk,(λ_=>rfl),Zo,Zp,Zr,MX,MQ,MI,MO,Zu,Zv,Zw,Zx⟩
  .simp only[Ac,Ab,Aa,Aj]at ho;subst ho;have q2:l.getD 2 false=true:=hdep ⟨2,.data⟩ Zc rfl;clear hdep;obtain rfl:=f2 q2;refine Ar rfl rfl ?_;generalize hK:Cc w k1 n1 ki na (l.setIfInBounds 3 true)=K;go_simp;rw[<-hK];unfold Cc;exact⟨t4,t5,t6,_,_,t9,t10,t11,t12,t13,t14,t15,t16,rfl,hsz',Zl,Zk,Zn,(λ_=>rfl),Zp,Zr,MX,MQ,MI,MO,Zu,Zv,Zw,Zx⟩
  .simp only[Ac,Ab,Aa,Aj]at ho;subst ho;have q1:l.getD 1 false=true:=hdep ⟨1,.data⟩ Zc rfl;have q3:l.getD 3 false=true:=hdep ⟨3,.data⟩ Zc rfl;clear hdep;obtain rfl:=f1 q1;obtain rfl:=f3 q3;refine Ar rfl rfl ?_;generalize hK:Cc w k1 n1 ki na (l.setIfInBounds 4 true)=K;go_simp;go_at_call 96;refine(II _ _ _).mono ?_;rintro e w1 ⟨rfl,rfl⟩;rw[<-hK];unfold Cc;exact⟨t4,t5,_,t7,_,_,t10,t11,t12,t13,t14,t15,t16,rfl,hsz',Zl,Zk,Zn,Zo,(λ_=>rfl),Zr,MX,MQ,MI,MO,Zu,Zv,Zw,Zx⟩
  .simp only[Ac,Ab,Aa,Aj]at ho;subst ho;clear hdep;refine Ar rfl rfl ?_;generalize hK:Cc w k1 n1 ki na (l.setIfInBounds 5 true)=K;go_simp;rw[<-hK];unfold Cc;exact⟨t4,t5,t6,t7,t8,t9,_,t11,t12,t13,t14,t15,t16,rfl,hsz',Zl,Zk,Zn,Zo,Zp,(λ_=>rfl),MX,MQ,MI,MO,Zu,Zv,Zw,Zx⟩
  .simp only[Ac,Ab,Aa,Aj]at ho;subst ho;have q5:l.getD 5 false=true:=hdep ⟨5,.data⟩ Zc rfl;clear hdep;obtain rfl:=f5 q5;refine Ar rfl rfl ?_;generalize hK:Cc w k1 n1 ki na (l.setIfInBounds 6 true)=K;go_simp;rw[<-hK];unfold Cc;exact⟨t4,t5,t6,t7,t8,t9,_,_,t12,t13,t14,t15,t16,rfl,hsz',Zl,Zk,Zn,Zo,Zp,Zr,(λ_=>rfl),MQ,MI,MO,Zu,Zv,Zw,Zx⟩
  .simp only[Ac,Ab,Aa,Aj]at ho;subst ho;clear hdep;refine Ar rfl rfl ?_;generalize hK:Cc w k1 n1 ki na (l.setIfInBounds 7 true)=K;go_simp;rw[<-hK];unfold Cc;exact⟨t4,t5,t6,t7,t8,t9,t10,t11,_,t13,t14,t15,t16,rfl,hsz',Zl,Zk,Zn,Zo,Zp,Zr,MX,(λ_=>rfl),MI,MO,Zu,Zv,Zw,Zx⟩
  .simp only[Ac,Ab,Aa,Aj]at ho;subst ho;have q7:l.getD 7 false=true:=hdep ⟨7,.data⟩ Zc rfl;clear hdep;obtain rfl:=f7 q7;refine Ar rfl rfl ?_;generalize hK:Cc w k1 n1 ki na (l.setIfInBounds 8 true)=K;go_simp;rw[<-hK];unfold Cc;exact⟨t4,t5,t6,t7,t8,t9,t10,t11,_,_,t14,t15,t16,rfl,hsz',Zl,Zk,Zn,Zo,Zp,Zr,MX,MQ,(λ_=>rfl),MO,Zu,Zv,Zw,Zx⟩
  .simp only[Ac,Ab,Aa,Aj]at ho;subst ho;have q6:l.getD 6 false=true:=hdep ⟨6,.data⟩ Zc rfl;have q8:l.getD 8 false=true:=hdep ⟨8,.data⟩ Zc rfl;clear hdep;obtain rfl:=f6 q6;obtain rfl:=f8 q8;refine Ar rfl rfl ?_;generalize hK:Cc w k1 n1 ki na (l.setIfInBounds 9 true)=K;go_simp;go_at_call 96;refine(II _ _ _).mono ?_;rintro e w1 ⟨rfl,rfl⟩;rw[<-hK];unfold Cc;exact⟨t4,t5,t6,t7,t8,t9,t10,_,t12,_,_,t15,t16,rfl,hsz',Zl,Zk,Zn,Zo,Zp,Zr,MX,MQ,MI,(λ_=>rfl),Zu,Zv,Zw,Zx⟩
  .simp only[Ac,Ab,Aa,Aj]at ho;subst ho;have q4:l.getD 4 false=true:=hdep ⟨4,.data⟩ Zc rfl;have q9:l.getD 9 false=true:=hdep ⟨9,.data⟩ Zc rfl;clear hdep;obtain rfl:=f4 q4;obtain rfl:=f9 q9;obtain rfl:=f13 hui;refine Ar rfl rfl ?_;generalize hK:Cc w k1 n1 ki na (l.setIfInBounds 10 true)=K;go_simp;rw[<-hK];unfold Cc;exact⟨t4,t5,t6,t7,t8,_,t10,t11,t12,t13,_,_,t16,rfl,hsz',Zl,Zk,Zn,Zo,Zp,Zr,MX,MQ,MI,MO,(λ_=>⟨Zc,rfl⟩),Zv,Zw,(λh=>absurd (ki'.symm.trans h) Za)⟩
  .simp only[Ac,Ab,Aa,Aj]at ho;subst ho;have q10:l.getD 10 false=true:=hdep ⟨10,.data⟩ Zc rfl;clear hdep;obtain⟨rfl,rfl⟩:=f10 q10;refine Ar rfl rfl ?_;generalize hK:Cc w k1 n1 ki na (l.setIfInBounds 11 true)=K;go_simp;go_at_call 95;refine(Wa (Cl k1 ki) (Cl n1 na) _ _ _ (by have h:=Ao ((w.alloc (.cells #[.s k1,.s n1] 65)).alloc (.cells #[.s ki,.s na] 65)) #[.i (Cl k1 ki),.i (Cl n1 na)] 3 0;simpa using h) (by have h:=Ao ((w.alloc (.cells #[.s k1,.s n1] 65)).alloc (.cells #[.s ki,.s na] 65)) #[.i (Cl k1 ki),.i (Cl n1 na)] 3 1;simpa using h)).mono ?_;rintro e w1 ⟨rfl,rfl⟩;rw[<-hK];unfold Cc;exact⟨t4,t5,t6,t7,t8,t9,t10,t11,t12,t13,t14,_,_,rfl,hsz',Zl,Zk,Zn,Zo,Zp,Zr,MX,MQ,MI,MO,Zu,(λ_=>rfl),Zw,Zx⟩
  .simp only[Ac,Ab,Aa,Aj]at ho;subst ho;have q11:l.getD 11 false=true:=hdep ⟨11,.data⟩ Zc rfl;clear hdep;obtain rfl:=f11 q11;refine Ar rfl rfl ?_;generalize hK:Cc w k1 n1 ki na (l.setIfInBounds 12 true)=K;go_simp;rw[<-hK];unfold Cc;exact⟨_,t5,t6,t7,t8,t9,t10,t11,t12,t13,t14,t15,_,rfl,hsz',Zl,Zk,Zn,Zo,Zp,Zr,MX,MQ,MI,MO,Zu,Zv,(λ_=>rfl),Zx⟩
def AN (t:Nat->Value)(i:Nat)(v:Value):Nat->Value:=λj=>bif j==i then v else t j
theorem BO{t:Nat->Value}{i j:Nat}{v:Value}(h:¬j=i):AN t i v j=t j:=by
 have:(j==i)=false:=by simpa using h
 simp[AN,this]
theorem BE{t:Nat->Value}{i:Nat}{v:Value}:AN t i v i=v:=by simp[AN]
def Cf (ops:Array Oper)(i j:Nat):Prop:=∃o,ops[i]?=some o/\∃e∈o.after,Region.binds .any e=true/\e.on=j
theorem BB{ops:Array Oper}{i j:Nat}(h:(match ops[i]? with|some o=>o.after.toList.any (λe=>Region.binds .any e&&e.on==j)|none=>false)=true):Cf ops i j:=by cases ho:ops[i]? with
 |none=>rw[ho]at h;cases h
 |some o=>rw[ho]at h;obtain⟨e,he,h2⟩:=List.any_eq_true.1 h;simp only[Ak,beq_iff_eq]at h2;exact⟨o,ho,e,by simpa using he,h2.1,h2.2⟩
theorem sg{P:Prop}(h:P:=by have h:=hK _ X rfl Ck;refine Ar rfl rfl ?_;clear hK hg;go_simp;first|simpa[AN,ea,eb,ec,ed,ee]using h|simpa[AN,ea,eb,ec,ed]using h|simpa[AN,ea,eb,ec]using h|simpa[AN,ea,eb]using h|simpa[AN,ea]using h|simpa[AN]using h):P:=h
def RG (n:Nat)(mk:(Nat->Value)->Array Value)(W:World)(G:Nat->Value->World->Prop)(Fin:Act->World->Prop)(l:Array Bool)(a:Act)(X:World):Prop:=l.size=n+1/\((l.getD n false=true->(∀i,i<n+1->l.getD i false=true)/\Fin a X)/\(l.getD n false=false->∃t:Nat->Value,a=⟨mk t,[]⟩/\Below W.1.size W X/\∀i,i<n->l.getD i false=true->G i (t i) X))
theorem Lm{P:Program}{id:Nat}{ops:Array Oper}{Q:Exit->Act->World->Prop}{a0:Act}{W:World}(hm:P.follows .mixedOrders=true)(n:Nat)(mk:(Nat->Value)->Array Value)(t0:Nat->Value)(G:Nat->Value->World->Prop)(Fin:Act->World->Prop)(hn:ops.size=n+1)(hord:((List.range ops.size).all λi=>match ops[i]? with|some o=>o.after.all (λe=>decide (e.on<i))|none=>true)=true)(hlast:((List.range n).all λj=>match ops[n]? with|some o=>o.after.any (λe=>Region.binds .any e&&e.on==j)|none=>false)=true)(st:∀i v X Y,i<n->G i v X->Below X.1.size X Y->G i v Y)(h0:a0=⟨mk t0,[]⟩)(sg:∀i,i<n->∀(t:Nat->Value) X K,Below W.1.size W X->(∀j,Cf ops i j->G j (t j) X)->(∀v Y,G i v Y->Below X.1.size X Y->K ⟨mk (AN t i v),[]⟩ Y)->wpOp P ops Q i K ⟨mk t,[]⟩ X)(sl:∀(t:Nat->Value) X K,Below W.1.size W X->(∀j,j<n->G j (t j) X)->(∀a Y,Fin a Y->K a Y)->wpOp P ops Q n K ⟨mk t,[]⟩ X)(hfin:∀a X,Fin a X->Q .normal a X):(Code.region id ops true).wp P Q a0 W:=by
 have hdep:∀i j,i<n+1->Cf ops i j->j<n:=by rintro i j hi ⟨o,ho,e,he,_,rfl⟩;have h1:=Bt.1 hord i (Bc.2 Zb);rw[ho]at h1;have h2:=A9.1 h1 e he;have:=of_decide_eq_true h2;omega
 refine CA hm (RG n mk W G Fin) ?_ ?_ ?_ ?_
 .have hz:∀i,(Array.replicate ops.size false).getD i false=false:=λi=>by simp[Array.getD]
  refine⟨by simp[hn],λh=>?_,λ_=>⟨t0,h0,(Al _ _).drew,λi _ h=>?_⟩⟩<;>(rw[hz]at h;cases h)
 .rintro l a X ⟨hs,_⟩;rw[hs,hn]
 .rintro l a X ⟨hs,h6,_⟩ hr;have AL:=CC hord (by rw[hs,hn]) hr;exact hfin a X (h6 (AL n Zb)).2
 .rintro l a X i ⟨hs,h6,hg⟩ hr;obtain⟨hu,o,ho,hall⟩:=mem_ready.1 hr;have di:∀j,Cf ops i j->l.getD j false=true:=by
   rintro j ⟨o',ho',e,he,hb,rfl⟩;rw[ho]at ho';obtain rfl:o=o':=by simpa using ho'
   exact hall e he hb
  have hi7:i<n+1:=by
   rcases At i (n+1)with h|h;.exact h
   .rw[AP Zb]at ho;cases ho
  have hui:l.getD i false=false:=by have:l.getD i true=false:=hu;simpa[Array.getD,hs,hi7]using this
  have l6:l.getD n false=false:=by cases h:l.getD n false with
   |false=>rfl
   |true=>rw[(h6 h).1 i hi7]at hui;cases hui
  obtain⟨t,rfl,hb,gg⟩:=hg l6;have kp:∀j,¬j=i->(l.setIfInBounds i true).getD j false=l.getD j false:=λj hj=>by rw[BM Zb,if_neg hj]
  have ki:(l.setIfInBounds i true).getD i false=true:=by rw[BM Zb,if_pos rfl]
  have hs':(l.setIfInBounds i true).size=n+1:=by simp[hs]
  have ku:∀j,l.getD j false=true->(l.setIfInBounds i true).getD j false=true:=λj h=>by
   by_cases e:j=i;.subst e;exact ki
   .rw[kp j e];exact h
  by_cases hin:i=n
  .subst hin;have al:∀j,j<i->l.getD j false=true:=λj hj=>by have h1:=Bt.1 hlast j (Bc.2 hj);rw[ho]at h1;obtain⟨k,hk,h2⟩:=IW.1 h1;simp only[Ak,beq_iff_eq]at h2;exact di j ⟨o,ho,o.after[k],F2 hk,h2.1,h2.2⟩
   clear hr hu ho h6 hg;refine sl t X _ hb (λj hj=>gg j hj (al j hj)) (λa Y hY=>⟨hs',λ_=>⟨λj hj=>?_,hY⟩,λh=>?_⟩)
   .by_cases e:j=i;.subst e;exact ki
    .exact ku j (al j Zb)
   .rw[ki]at h;cases h
  .clear hr hu ho h6 hg;have hno:(l.setIfInBounds i true).getD n false=false:=by rw[kp n (λe=>hin e.symm)];exact l6
   refine sg i Zb t X _ hb (λj hj=>gg j (hdep i j hi7 hj) (di j hj)) (λv Y hv hY=>⟨hs',λh=>?_,λ_=>⟨AN t i v,rfl,hb.trans (hY.mono hb.size),λj j1 h=>?_⟩⟩);.rw[hno]at h;cases h
   .by_cases e:j=i;.subst e;rw[BE];exact hv
    .rw[kp j e]at h;rw[BO e];exact st _ _ _ _ j1 (gg j j1 h) hY
theorem PI{ops:Array Oper}{n:Nat}(hanc:((List.range n).all λj=>(List.range (n+1)).any λk=>match ops[k]? with|some o=>decide (j<k)&&o.after.any (λe=>Region.binds .any e&&e.on==j)|none=>false)=true){f:Nat->Prop}(hcl:∀i j,Cf ops i j->f i->f j)(hn:∀j,Cf ops n j->f j):∀m j,n<=j+m->j<n->f j
 |0,j,h,hj=>by omega
 |m+1,j,h,hj=>by have h1:=Bt.1 hanc j (Bc.2 hj);obtain⟨k,hk,h2⟩:=List.any_eq_true.1 h1;have hk':=Bc.1 hk;cases ho:ops[k]? with
  |none=>rw[ho]at h2;cases h2
  |some o=>
   rw[ho]at h2;simp only[Ak,decide_eq_true_eq]at h2;obtain⟨q,hq,h3⟩:=IW.1 h2.2;simp only[Ak,beq_iff_eq]at h3;have hw:Cf ops k j:=⟨o,ho,o.after[q],F2 hq,h3.1,h3.2⟩;by_cases hkn:k=n;.subst hkn;exact hn j hw
   .exact hcl k j hw (PI hanc hcl hn m k Zb Zb)
end Go.Proofs.YtofencldleijcaaGreat
