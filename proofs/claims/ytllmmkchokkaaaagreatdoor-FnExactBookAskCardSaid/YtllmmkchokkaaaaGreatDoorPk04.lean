import Derived.Test.YtllmmkchokkaaaaGreatDoorPk01
import Derived.Deep.Light
import Derived.Deep.QuietTactic
import Derived.BigQuiet
set_option maxRecDepth 100000
set_option maxHeartbeats 1000000
namespace Go.Proofs.YtllmmkchokkaaaaGreatDoor
open Go.RowKit Go.Proofs.Tryz
def DU (n lo hi:Int):Bool:=decide (lo<=n)&&decide (n<=hi)
theorem RI{n lo hi:Int}(h:lo<=n/\n<=hi):DU n lo hi=true:=by simp[DU,h.1,h.2]
theorem NA{n lo hi:Int}(h:n<lo\/hi<n):DU n lo hi=false:=by rcases h with h|h<;>simp[DU]<;>omega
theorem qS{n lo hi:Int}(h:DU n lo hi=true):lo<=n/\n<=hi:=by simpa[DU]using h
theorem Av{a b:Bool}(h:a=b):Ending.returned (.bool a)=.returned (.bool b):=by rw[h]
def Bi (p:Nat->Bool):Nat->Bool|0=>true|k+1=>Bi p k&&p k
theorem Bm{p:Nat->Bool}:∀{n:Nat},Bi p n=true↔∀i,i<n->p i=true
 |0=>⟨λ_ i h=>absurd h (Al _),λ_=>rfl⟩
 |n+1=>by simp only[Bi,AG,Bm (n:=n)];exact⟨λh i hi=>by
    rcases As i n with h1|h1;.exact h.1 i h1
    .have:i=n:=Za;subst this;exact h.2,λh=>⟨λi hi=>h i Za,h n Za⟩⟩
theorem A9{p:Nat->Bool}{n i:Nat}(hi:i<n) (h:p i=false):Bi p n=false:=by cases hc:Bi p n with
 |false=>rfl
 |true=>rw[Bm.1 hc i hi]at h;cases h
def Yq (c:UInt8):Bool:=(decide (97<=c.toNat)&&decide (c.toNat<=122))||(decide (48<=c.toNat)&&decide (c.toNat<=57))||c.toNat==45||c.toNat==46
def Do (s:ByteArray) (i:Nat):UInt8:=if h:i<s.size then s[i]else 0
def Bv (s:ByteArray):Bool:=DU s.size 1 20&&Bi (λi=>Yq (Do s i)) s.size
theorem Jq (s:ByteArray) (k:Nat) (h:k<s.size):Do s k=s[k]:=dif_pos h
theorem Cf (n lo hi:Int) (w:World):Calls prog 70 #[.i n,.i lo,.i hi] w λe w'=>e=.returned (.bool (DU n lo hi))/\w'=w:=by
 by_cases h1:lo<=n
 .by_cases h2:n<=hi
  .have e:=RI ⟨h1,h2⟩;have HE:=Ai e;clear e;go_enter func70,ntmps70;go_wp2;go_ret;exact⟨Av HE.symm,rfl⟩
  .have HE:=Ai (NA (n:=n) (lo:=lo) (hi:=hi) (Ax Za));go_enter func70,ntmps70;go_wp2;go_ret;exact⟨Av HE.symm,rfl⟩
 .have HE:=Ai (NA (n:=n) (lo:=lo) (hi:=hi) (AD Za));go_enter func70,ntmps70;go_wp2;go_ret;exact⟨Av HE.symm,rfl⟩
theorem Dz (n lo hi:Int) (w:World):Calls prog 118 #[.i n,.i lo,.i hi] w λe w'=>e=.returned (.bool (DU n lo hi))/\w'=w:=by
 by_cases h1:lo<=n
 .by_cases h2:n<=hi
  .have e:=RI ⟨h1,h2⟩;have HE:=Ai e;clear e;go_enter func118,ntmps118;go_wp2;go_ret;exact⟨Av HE.symm,rfl⟩
  .have HE:=Ai (NA (n:=n) (lo:=lo) (hi:=hi) (Ax Za));go_enter func118,ntmps118;go_wp2;go_ret;exact⟨Av HE.symm,rfl⟩
 .have HE:=Ai (NA (n:=n) (lo:=lo) (hi:=hi) (AD Za));go_enter func118,ntmps118;go_wp2;go_ret;exact⟨Av HE.symm,rfl⟩
theorem MD (c:UInt8) (w:World):Calls prog 148 #[.int .u8 (c.toNat:Int)] w λe w'=>e=.returned (.bool (Yq c))/\w'=w:=by go_enter func148,ntmps148;go_wp2;all_goals go_ret;refine⟨Av ?_,rfl⟩;rw[Bool.eq_iff_iff];simp[Yq];try omega
def D4 (a b:ByteArray):Bool:=Op.bytesLess a.toList b.toList
theorem KE (a b:ByteArray) (w:World):Calls prog 200 #[.s a,.s b] w λe w'=>e=.returned (.bool (D4 a b))/\w'=w:=by go_enter func200,ntmps200;go_wp2;go_ret;exact⟨rfl,rfl⟩
theorem Nr{s:ByteArray}(h:DU s.size 1 20=false):Bv s=false:=by unfold Bv;rw[h];rfl
theorem QP{s:ByteArray}{k:Nat}(hk:k<s.size) (h:Yq (Do s k)=false):Bv s=false:=by unfold Bv;rw[A9 hk h];simp
theorem QL{s:ByteArray}(h:DU s.size 1 20=true) (h2:∀i,i<s.size->Yq (Do s i)=true):Bv s=true:=by unfold Bv;rw[h,Bm.2 h2];rfl
theorem CC (s:ByteArray) (w:World) (hs:(s.size:Int)<=140737488355328):Calls prog 90 #[.s s] w λe w'=>e=.returned (.bool (Bv s))/\w'=w:=by
 by_cases h1:(s.size:Int)<1;.have HE:=Ai (Nr (s:=s) (NA (AD h1)));go_enter func90,ntmps90;go_wp2;go_ret;exact⟨Av HE.symm,rfl⟩
 by_cases h2:(20:Int)<s.size;.have HE:=Ai (Nr (s:=s) (NA (Ax h2)));go_enter func90,ntmps90;go_wp2;go_ret;exact⟨Av HE.symm,rfl⟩
 go_enter func90,ntmps90;go_wp2;go_loop[14](λi=>∃k:Nat,k<=s.size/\i=.i k/\∀j,j<k->Yq (Do s j)=true) (λi=>s.size-(intOf i).toNat);case atStart=>exact⟨0,Ap _,rfl,λj hj=>absurd hj (Al _)⟩
 case round=>
  obtain⟨k,hk,rfl,hall⟩:=hrel;by_cases hkn:k<s.size;.have HB:=Ai (Jq s k hkn);have HA:=Ai hall;clear hall;cases hc:Yq (Do s k)with
   |false=>
    have HE:=Ai (QP hkn hc);have hc':Yq s[k]=false:=by rw[<-HB.out];exact hc
    clear hc;go_wp2_with (go_at_call 148;refine(MD _ _).mono ?_;rintro e w1 ⟨rfl,rfl⟩);go_ret;exact⟨Av HE.symm,rfl⟩
   |true=>
    have HE:=Ai hc;have hc':Yq s[k]=true:=by rw[<-HB.out];exact hc
    clear hc;go_wp2_with (go_at_call 148;refine(MD _ _).mono ?_;rintro e w1 ⟨rfl,rfl⟩);go_round;case rel=>exact⟨k+1,Za,by go_num,λj hj=>by
     rcases As j k with h3|h3;.exact HA j h3
     .have:j=k:=Za;subst this;exact HE⟩
    case measure=>simp[intOf];omega
  .have HE:=Ai (QL (s:=s) (RI ⟨Za,Za⟩) (λi hi=>hall i Za));clear hall;go_wp2;go_ret;exact⟨Av HE.symm,rfl⟩
theorem AZ (s:ByteArray) (w:World) (hs:(s.size:Int)<=140737488355328):Calls prog 110 #[.s s] w λe w'=>e=.returned (.bool (Bv s))/\w'=w:=by cases hin:DU s.size 1 20 with
 |false=>have HE:=Ai (Nr (s:=s) hin);go_enter func110,ntmps110;go_wp2_with (go_at_call 70;refine(Cf _ _ _ _).mono ?_;rintro e w1 ⟨rfl,rfl⟩);go_ret;exact⟨Av HE.symm,rfl⟩
 |true=>
  have HI:=Ai hin;go_enter func110,ntmps110;go_wp2_with (go_at_call 70;refine(Cf _ _ _ _).mono ?_;rintro e w1 ⟨rfl,rfl⟩);go_loop[3](λi=>∃k:Nat,k<=s.size/\i=.i k/\∀j,j<k->Yq (Do s j)=true) (λi=>s.size-(intOf i).toNat);case atStart=>exact⟨0,Ap _,rfl,λj hj=>absurd hj (Al _)⟩
  case round=>
   obtain⟨k,hk,rfl,hall⟩:=hrel;by_cases hkn:k<s.size;.have HB:=Ai (Jq s k hkn);have HA:=Ai hall;clear hall hin;go_wp2;all_goals first
     |(go_ret;refine⟨Av (QP hkn ?_).symm,rfl⟩;rw[HB.out];clear HB HA HI;go_light;simp only[Bool.not_eq_true',decide_eq_false_iff_not,beq_eq_false_iff_ne,ne_eq]at*;simp only[Yq,Bool.or_eq_false_iff,Jv,decide_eq_false_iff_not,beq_eq_false_iff_ne,ne_eq];omega)
     |(
       have h9:Yq (Do s k)=true:=by rw[HB.out];clear HB HA HI;go_light;simp only[Bool.not_eq_false',decide_eq_true_eq,beq_iff_eq]at*;simp only[Yq,Bool.or_eq_true,AG,decide_eq_true_eq,beq_iff_eq];omega
       go_round;case rel=>exact⟨k+1,Za,by go_num,λj hj=>by
        rcases As j k with h3|h3;.exact HA j h3
        .have:j=k:=Za;subst this;exact h9⟩
       case measure=>simp[intOf];omega)
   .have HE:=Ai (QL (s:=s) HI (λi hi=>hall i Za));clear hall hin;go_wp2;go_ret;exact⟨Av HE.symm,rfl⟩
def Yx (n:Nat) (s:Nat->ByteArray):Bool:=Bi (λi=>Bv (s i)&&(i==0||D4 (s (i-1)) (s i))) n
theorem PJ{w wr:World}{q nq:Nat}(h:wr=w.drewN q):∃q',wr.drewN nq=w.drewN q':=⟨q+nq,by rw[h];simp⟩
theorem bT{P:Prop}(h:P:=by go_wp2;go_quiet((go_at_call 110;go_must(exact Hf (AZ _ _ hmk))));go_wp2;go_ret;exact⟨Av HE.symm,PJ HQ⟩):P:=h
theorem kU (n:Nat) (s:Nat->ByteArray) (ad:OA) (cap:Nat) (w:World) (lo hi:Nat) (hl:(n:Int)<=140737488355328) (hm:∀i,i<n->((s i).size:Int)<=140737488355328) (hc:AB w lo hi ad n s):Calls prog 175 #[.l ad n cap] w λe w'=>e=.returned (.bool (Yx n s))/\∃q,w'=w.drewN q:=by
 go_enter func175,ntmps175;go_wp2;go_loopw[3](λi wr=>∃k:Nat,k<=n/\i=.i k/\(∀j,j<k->(Bv (s j)&&(j==0||D4 (s (j-1)) (s j)))=true)/\∃q,wr=w.drewN q) (λi _=>n-(intOf i).toNat);case atStart=>exact⟨0,Ap _,rfl,λj hj=>absurd hj (Al _),0,rfl⟩
 case round=>
  obtain⟨k,hk,rfl,hall,q,hq⟩:=hrel;have HQ:=Ai hq;by_cases hkn:k<n
  .obtain⟨b,off,rfl,hlo,hbh,hcx0⟩:=hc k hkn;have hcx:wr.cell? ⟨b,off+k,none⟩=some (.s (s k)):=by rw[hq];exact hcx0
   have hmk:=hm k hkn;have HA:=Ai hall;clear hall hcx0;cases hn:Bv (s k)with
   |false=>have HE:=Ai (A9 (p:=λi=>Bv (s i)&&(i==0||D4 (s (i-1)) (s i))) hkn (by rw[hn];rfl));clear hc hm hq;exact bT
   |true=>
    rcases AW k with rfl|hpos
    .clear hc hm hq;have HN:=Ai (show(Bv (s 0)&&((0:Nat)==0||D4 (s (0-1)) (s 0)))=true by rw[hn];rfl);simp only[Nat.add_zero]at hcx;go_wp2;go_quiet((go_at_call 110;go_must(exact Hf (AZ _ _ hmk))));go_wp2;go_roundw;case rel=>exact⟨1,Za,by go_num,λj hj=>(by have:j=0:=Za;subst this;exact HN),PJ HQ⟩
     case measure=>simp[intOf];omega
    .obtain⟨m,rfl⟩:∃m,k=m+1:=⟨k-1,Za⟩;obtain⟨b',off',e,_,_,hcy0⟩:=hc m Za;cases e;have hcy:wr.cell? ⟨b,off+m,none⟩=some (.s (s m)):=by rw[hq];exact hcy0
     have hg:decide ((0:Int)<((m+1:Nat):Int))=true:=decide_eq_true Za;clear hc hm hq hcy0;cases hlt:D4 (s m) (s (m+1))with
     |false=>have HE:=Ai (A9 (p:=λi=>Bv (s i)&&(i==0||D4 (s (i-1)) (s i))) hkn (by rw[hn];simp[hlt]));have hlt':Op.bytesLess (s m).toList (s (m+1)).toList=false:=hlt;clear hlt;exact bT
     |true=>
      have HN:=Ai (show(Bv (s (m+1))&&(m+1==0||D4 (s (m+1-1)) (s (m+1))))=true by rw[hn];simp[hlt]);have hlt':Op.bytesLess (s m).toList (s (m+1)).toList=true:=hlt;clear hlt;go_wp2;go_quiet((go_at_call 110;go_must(exact Hf (AZ _ _ hmk))));go_wp2;go_roundw;case rel=>exact⟨m+2,Za,by go_num,λj hj=>(by
       rcases As j (m+1)with h3|h3;.exact HA j h3
       .have:j=m+1:=Za;subst this;exact HN),PJ HQ⟩
      case measure=>simp[intOf];omega
  .have HE:=Ai (Bm.2 (λi hi=>hall i Za));have:k=n:=Za;subst this;clear hall hc hm hq;go_wp2;go_ret;exact⟨Av HE.symm,q,HQ⟩
theorem An (w:World) (o:Obj):Below w.1.size w (w.alloc o):=(Ak _ _).alloc Bj o
def X4 (n:Nat) (s:Nat->ByteArray):Bool:=Bi (λi=>i==0||D4 (s (i-1)) (s i)) n
theorem JJ (n:Nat) (s:Nat->ByteArray):Yx n s=(X4 n s&&Bi (λi=>Bv (s i)) n):=by
 rw[Bool.eq_iff_iff,AG];unfold Yx X4;rw[Bm,Bm,Bm];constructor;.intro h;exact⟨λi hi=>by have:=h i hi;simp only[AG]at this;exact this.2,λi hi=>by have:=h i hi;simp only[AG]at this;exact this.1⟩
 .intro h i hi;rw[AG];exact⟨h.2 i hi,h.1 i hi⟩
theorem Tq (n:Nat) (s:Nat->ByteArray) (ad:OA) (cap:Nat) (w:World) (lo hi:Nat) (hl:(n:Int)<=140737488355328) (hc:AB w lo hi ad n s):Calls prog 199 #[.l ad n cap,.func (.func 200) #[] #[]] w λe w'=>e=.returned (.bool (X4 n s))/\∃q,w'=w.drewN q:=by
 go_enter func199,ntmps199;go_wp2;go_loopw[5](λi wr=>∃k:Nat,1<=k/\(k<=n\/k=1)/\i=.i k/\(∀j,j<k->(j==0||D4 (s (j-1)) (s j))=true)/\∃q,wr=w.drewN q) (λi _=>n-(intOf i).toNat);case atStart=>exact⟨1,Aw _,Ax rfl,rfl,λj hj=>(by have:j=0:=Za;subst this;rfl),0,rfl⟩
 case round=>
  obtain⟨k,hk1,hk,rfl,hall,q,hq⟩:=hrel;have HQ:=Ai hq;by_cases hkn:k<n
  .obtain⟨m,rfl⟩:∃m,k=m+1:=⟨k-1,Za⟩;obtain⟨b,off,rfl,hlo,hbh,hcx0⟩:=hc (m+1) hkn;obtain⟨b',off',e,_,_,hcy0⟩:=hc m Za;cases e;have hcx:wr.cell? ⟨b,off+(m+1),none⟩=some (.s (s (m+1))):=by rw[hq];exact hcx0
   have hcy:wr.cell? ⟨b,off+m,none⟩=some (.s (s m)):=by rw[hq];exact hcy0
   have HA:=Ai hall;have hkz:(m:Int)+1<=n:=Za;clear hall hcx0 hcy0 hc hq hk;cases hlt:D4 (s m) (s (m+1))with
   |false=>have HE:=Ai (A9 (p:=λi=>i==0||D4 (s (i-1)) (s i)) hkn (by simp[hlt]));go_wp2;go_quiet((go_at_call 200;go_must(exact Hf (KE _ _ _))));go_wp2;go_ret;exact⟨Av HE.symm,PJ HQ⟩
   |true=>
    have HN:=Ai (show(m+1==0||D4 (s (m+1-1)) (s (m+1)))=true by simp[hlt]);go_wp2;go_quiet((go_at_call 200;go_must(exact Hf (KE _ _ _))));go_wp2;go_roundw;case rel=>exact⟨m+2,Za,AD Za,by go_num,λj hj=>(by
     rcases As j (m+1)with h3|h3;.exact HA j h3
     .have:j=m+1:=Za;subst this;exact HN),PJ HQ⟩
    case measure=>simp[intOf];omega
  .have HE:=Ai (Bm.2 (λi hi=>hall i Za):X4 n s=true);clear hall hc hq hk;go_wp2;go_ret;exact⟨Av HE.symm,q,HQ⟩
def Em (n:Nat) (s:Nat->ByteArray):Bool:=decide (n<=5)&&Yx n s
theorem Rr (n:Nat) (s:Nat->ByteArray) (ad:OA) (cap:Nat) (w:World) (lo hi:Nat) (hl:(n:Int)<=140737488355328) (hm:∀i,i<n->((s i).size:Int)<=140737488355328) (hc:AB w lo hi ad n s):Calls prog 177 #[.l ad n cap] w λe w'=>e=.returned (.bool (Em n s))/\∃q,w'=w.drewN q:=by
 by_cases h5:(5:Int)<n;.have HE:=Ai (show Em n s=false by unfold Em;rw[decide_eq_false Za];rfl);go_enter func177,ntmps177;go_wp2;go_ret;exact⟨Av HE.symm,0,rfl⟩
 cases ha:X4 n s with
 |false=>have HE:=Ai (show Em n s=false by unfold Em;rw[JJ,ha];simp);go_enter func177,ntmps177;go_wp2_with (go_at_call 199;refine(Tq n s ad cap _ lo hi hl hc).mono ?_;rintro e w1 ⟨rfl,q,rfl⟩);go_ret;exact⟨Av HE.symm,_,rfl⟩
 |true=>
  have KN:=Ai ha;go_enter func177,ntmps177;go_wp2_with (go_at_call 199;refine(Tq n s ad cap _ lo hi hl hc).mono ?_;rintro e w1 ⟨rfl,q0,rfl⟩);go_loop[15](λi=>∃k:Nat,k<=n/\i=.i k/\∀j,j<k->Bv (s j)=true) (λi=>n-(intOf i).toNat);case atStart=>exact⟨0,Ap _,rfl,λj hj=>absurd hj (Al _)⟩
  case round=>
   obtain⟨k,hk,rfl,hall⟩:=hrel;by_cases hkn:k<n;.obtain⟨b,off,rfl,hlo,hbh,hcx⟩:=hc k hkn;have hmk:=hm k hkn;have HA:=Ai hall;clear hall hc hm ha;cases hn:Bv (s k)with
    |false=>have HE:=Ai (show Em n s=false by unfold Em;rw[JJ,A9 (p:=λi=>Bv (s i)) hkn hn];simp);go_wp2_with (go_at_call 90;refine(CC _ _ hmk).mono ?_;rintro e w1 ⟨rfl,rfl⟩);go_ret;exact⟨Av HE.symm,_,rfl⟩
    |true=>
     have HN:=Ai hn;go_wp2_with (go_at_call 90;refine(CC _ _ hmk).mono ?_;rintro e w1 ⟨rfl,rfl⟩);go_round;case rel=>exact⟨k+1,Za,by go_num,λj hj=>(by
      rcases As j k with h3|h3;.exact HA j h3
      .have:j=k:=Za;subst this;exact HN)⟩
     case measure=>simp[intOf];omega
   .have HE:=Ai (show Em n s=true by unfold Em;rw[JJ,KN.out,decide_eq_true (show n<=5 by omega),Bm.2 (λi hi=>hall i Za)];rfl);clear hall hc hm ha;go_wp2;go_ret;exact⟨Av HE.symm,_,rfl⟩
def CX (x:Ob):Bool:=!x.ending||decide (0<x.hn)
def PU (x:Ob):Bool:=x.ending&&(decide (x.hn=0)&&decide (x.born<x.ver))
theorem Gb (x:Ob) (ad:OA) (cap:Nat) (w:World) (hl:(x.hn:Int)<=140737488355328):Calls prog 137 #[.agg (vO x ad cap)] w λe w'=>e=.returned (.bool (CX x))/\Below w.1.size w w':=by obtain⟨ki,na,ve,bo,te,en,hn,hs⟩:=x;dsimp only at hl⊢;cases en with
 |false=>go_enter func137,ntmps137;go_wp2;go_ret;exact⟨rfl,An _ _⟩
 |true=>go_enter func137,ntmps137;go_wp2;go_ret;refine⟨Av ?_,An _ _⟩;simp[CX]
theorem Qi (x:Ob) (ad:OA) (cap:Nat) (w:World) (hl:(x.hn:Int)<=140737488355328):Calls prog 178 #[.agg (vO x ad cap)] w λe w'=>e=.returned (.bool (PU x))/\Below w.1.size w w':=by obtain⟨ki,na,ve,bo,te,en,hn,hs⟩:=x;dsimp only at hl⊢;cases en with
 |false=>go_enter func178,ntmps178;go_wp2;go_ret;exact⟨rfl,An _ _⟩
 |true=>
  rcases AW hn with rfl|hp;.go_enter func178,ntmps178;go_wp2;go_ret;exact⟨Av (by simp[PU]),An _ _⟩
  .have he:((hn:Int)==0)=false:=Zd;have HE:=Ai (show PU ⟨ki,na,ve,bo,te,true,hn,hs⟩=false by simp[PU];omega);go_enter func178,ntmps178;go_wp2;go_ret;exact⟨Av HE.symm,An _ _⟩
def Eo (x z:Ob):Int:=if D4 x.kind z.kind then-1 else if x.kind.toList=z.kind.toList then(if D4 x.name z.name then-1 else if x.name.toList=z.name.toList then 0 else 1)else 1
def DH (x z:Ob):Bool:=if x.kind.toList=z.kind.toList then D4 x.name z.name else D4 x.kind z.kind
theorem OZ{P:Prop}(h:P:=by go_enter func127,ntmps127;go_wp2;go_ret;exact⟨Bs HE.symm,HB _ _⟩):P:=h
theorem OF (x z:Ob) (ad ad2:OA) (cap cap2:Nat) (w:World):Calls prog 127 #[.agg (vO x ad cap),.agg (vO z ad2 cap2)] w λe w'=>e=.returned (.i (Eo x z))/\Below w.1.size w w':=by have hB:∀o1 o2:Obj,Below w.1.size w ((w.alloc o1).alloc o2):=λo1 o2=>(An _ _).alloc Ze _;have HB:=Ai hB;clear hB;cases h1:D4 x.kind z.kind with
 |true=>have HE:=Ai (show Eo x z=-1 by unfold Eo;rw[h1];rfl);have h1':Op.bytesLess x.kind.toList z.kind.toList=true:=h1;clear h1;exact OZ
 |false=>
  have h1':Op.bytesLess x.kind.toList z.kind.toList=false:=h1;by_cases h2:x.kind.toList=z.kind.toList
  .have h2':(x.kind.toList==z.kind.toList)=true:=by simp[h2]
   cases h3:D4 x.name z.name with
   |true=>have HE:=Ai (show Eo x z=-1 by unfold Eo;rw[h1,if_pos h2,h3];rfl);have h3':Op.bytesLess x.name.toList z.name.toList=true:=h3;clear h1 h2 h3;exact OZ
   |false=>
    have h3':Op.bytesLess x.name.toList z.name.toList=false:=h3;by_cases h4:x.name.toList=z.name.toList
    .have HE:=Ai (show Eo x z=0 by unfold Eo;rw[h1,if_pos h2,h3,if_pos h4];rfl);have h4':(x.name.toList==z.name.toList)=true:=by simp[h4]
     clear h1 h2 h3 h4;exact OZ
    .have HE:=Ai (show Eo x z=1 by unfold Eo;rw[h1,if_pos h2,h3,if_neg h4];rfl);have h4':(x.name.toList==z.name.toList)=false:=by simp[h4]
     clear h1 h2 h3 h4;exact OZ
  .have HE:=Ai (show Eo x z=1 by unfold Eo;rw[h1,if_neg h2];rfl);have h2':(x.kind.toList==z.kind.toList)=false:=by simp[h2]
   clear h1 h2;exact OZ
end Go.Proofs.YtllmmkchokkaaaaGreatDoor
