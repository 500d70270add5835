import Derived.Test.YtnnjcenacidceaaGreatAp
import Derived.Test.YtnnjcenacidceaaGreatRows
import Derived.WalkKit
import Derived.WalkSpells
import Derived.WalkLawsBesides
import Derived.Laws.IdiomStrings
import Derived.Deep.RegionWith
import Derived.Deep.QuietTactic
import Derived.BigQuiet
import Derived.Deep.Light
set_option maxRecDepth 100000
set_option maxHeartbeats 1000000
namespace Go.Proofs.YtnnjcenacidceaaGreat
open Go.RowKit Go.Proofs.Tryz
theorem Aj{p:Prop}(h:p):Hid p:=h
def AD (w:World)(lo hi:Nat)(ad:OA)(n:Nat)(s:Nat->ByteArray):Prop:=∀i,i<n->∃b off,ad=some ⟨b,off,none⟩/\lo<=b/\b<hi/\w.cell? ⟨b,off+i,none⟩=some (.s (s i))
def Bp (w:World)(lo hi:Nat)(ad:OA)(n:Nat)(s:Nat->ByteArray):Prop:=∀i,i<n->∃b off,ad=some ⟨b,off,none⟩/\lo<=b/\b<hi/\w.cell? ⟨b,off+i,none⟩=some (.s (s i))/\w.frozen? ⟨b,off+i,none⟩=false
def Lh (w:World)(n:Nat)(ad:OA)(cap:Nat):Prop:=n<=cap/\((ad=none/\n=0/\cap=0)\/∃b off,ad=some ⟨b,off,none⟩/\b<w.1.size)
theorem Lh.grow{w w':World}{n:Nat}{ad:OA}{cap:Nat}(h:Lh w n ad cap)(hz:w.1.size<=w'.1.size):Lh w' n ad cap:=⟨h.1,h.2.imp id (λ⟨b,off,e1,e2⟩=>⟨b,off,e1,Ad e2 hz⟩)⟩
theorem K1:(prog.info? 9).map (λi=>(i.zero,i.size,i.bytes))=some (some (.s ByteArray.empty),1,16):=Ze
theorem MR{k:IntKind}{a b:Int}(h:a=b):Ending.returned (.int k a)=.returned (.int k b):=by rw[h]
structure Fr (lo hi:Nat)(w w':World):Prop where
 os:w'.os=w.os
 tape:w'.tape=w.tape
 output:w'.output=w.output
 size:w.1.size<=w'.1.size
 block:∀k,k<w.1.size->(k<lo\/hi<=k)->w'.heap[k]?=w.heap[k]?
theorem Fr.refl (lo hi:Nat)(w:World):Fr lo hi w w:=⟨rfl,rfl,rfl,AG _,λ_ _ _=>rfl⟩
theorem Fr.trans{lo hi:Nat}{a b c:World}(h:Fr lo hi a b)(k:Fr lo hi b c):Fr lo hi a c:=⟨k.os.trans h.os,k.tape.trans h.tape,k.output.trans h.output,AS h.size k.size,λi hi ho=>(k.block i (Ad hi h.size) ho).trans (h.block i hi ho)⟩
theorem MY{lo hi:Nat}{w w':World}(h:Below w.1.size w w'):Fr lo hi w w':=⟨h.os,h.tape,h.output,h.size,λi hi _=>h.block i hi⟩
theorem Fr.setCell{lo hi:Nat}{a w:World}(h:Fr lo hi a w){p:Addr}(h1:lo<=p.block)(h2:p.block<hi)(u:Value):Fr lo hi a (w.setCell p u):=h.trans ⟨rfl,rfl,rfl,by simp[World.setCell],λk _ ho=>Below.heap_setCell _ _ _ _ Za⟩
theorem Fr.cell{lo hi:Nat}{w w':World}(h:Fr lo hi w w'){p:Addr}(hp:p.block<w.1.size)(ho:p.block<lo\/hi<=p.block):w'.cell? p=w.cell? p:=World.cell?_of_block (w:=w) (h.block p.block hp ho)
theorem Fr.frozen{lo hi:Nat}{w w':World}(h:Fr lo hi w w'){p:Addr}(hp:p.block<w.1.size)(ho:p.block<lo\/hi<=p.block):w'.frozen? p=w.frozen? p:=World.frozen?_of_block (w:=w) (h.block p.block hp ho)
theorem Fr.below{lo hi:Nat}{w w':World}(h:Fr lo hi w w'){B:Nat}(hB:B<=lo)(hs:B<=w.1.size):Below B w w':=⟨h.os,h.tape,h.output,h.size,λk hk=>h.block k Za (AB Za)⟩
theorem AD.below{w w':World}{B lo hi:Nat}{ad:OA}{n:Nat}{s:Nat->ByteArray}(h:AD w lo hi ad n s)(hb:Below B w w')(hB:hi<=B):AD w' lo hi ad n s:=λi hi'=>by obtain⟨b,off,e1,e2,e3,e4⟩:=h i hi';exact⟨b,off,e1,e2,e3,(hb.cell (p:=⟨b,off+i,none⟩) (Ad e3 hB)).trans e4⟩
theorem AD.alloc{w:World}{lo hi:Nat}{ad:OA}{n:Nat}{s:Nat->ByteArray}(h:AD w lo hi ad n s)(hB:hi<=w.1.size)(o:Obj):AD (w.alloc o) lo hi ad n s:=h.below ((Aq w.1.size w).alloc AQ o) hB
structure Ob where
 kind:ByteArray
 name:ByteArray
 ver:Int
 born:Int
 text:ByteArray
 ending:Bool
 hn:Nat
 hs:Nat->ByteArray
abbrev vO (x:Ob)(A:OA)(C:Nat):Array Value:=#[.s x.kind,.s x.name,.i x.ver,.i x.born,.s x.text,.bool x.ending,.l A x.hn C]
abbrev nQ (x:Ob)(A:OA)(C:Nat):List Value:=[.s x.kind,.s x.name,.i x.ver,.i x.born,.s x.text,.bool x.ending,.l A x.hn C]
def EX (n lo hi:Int):Bool:=decide (lo<=n)&&decide (n<=hi)
theorem Lq{n lo hi:Int}(h:lo<=n/\n<=hi):EX n lo hi=true:=by simp[EX,h.1,h.2]
theorem P1{n lo hi:Int}(h:n<lo\/hi<n):EX n lo hi=false:=by rcases h with h|h<;>simp[EX]<;>omega
theorem M9{n lo hi:Int}(h:EX n lo hi=true):lo<=n/\n<=hi:=by simpa[EX]using h
theorem Az{a b:Bool}(h:a=b):Ending.returned (.bool a)=.returned (.bool b):=by rw[h]
def Bg (p:Nat->Bool):Nat->Bool|0=>true|k+1=>Bg p k&&p k
theorem AV{p:Nat->Bool}:∀{n:Nat},Bg p n=true↔∀i,i<n->p i=true
 |0=>⟨λ_ i h=>absurd h (Ai _),λ_=>rfl⟩
 |n+1=>by simp only[Bg,Am,AV (n:=n)];exact⟨λh i hi=>by
    rcases Aw i n with h1|h1;.exact h.1 i h1
    .have:i=n:=Za;subst this;exact h.2,λh=>⟨λi hi=>h i Za,h n Za⟩⟩
theorem A9{p:Nat->Bool}{n i:Nat}(hi:i<n)(h:p i=false):Bg p n=false:=by cases hc:Bg p n with
 |false=>rfl
 |true=>rw[AV.1 hc i hi]at h;cases h
def YU (c:UInt8):Bool:=(decide (97<=c.toNat)&&decide (c.toNat<=122))||(decide (48<=c.toNat)&&decide (c.toNat<=57))||c.toNat==45||c.toNat==46
def Fw (s:ByteArray)(i:Nat):UInt8:=if h:i<s.size then s[i]else 0
def BB (s:ByteArray):Bool:=EX s.size 1 20&&Bg (λi=>YU (Fw s i)) s.size
theorem Ol (s:ByteArray)(k:Nat)(h:k<s.size):Fw s k=s[k]:=dif_pos h
theorem BV (n lo hi:Int)(w:World):Calls prog 21 #[.i n,.i lo,.i hi] w λe w'=>e=.returned (.bool (EX n lo hi))/\w'=w:=by
 by_cases h1:lo<=n
 .by_cases h2:n<=hi
  .have e:=Lq ⟨h1,h2⟩;have HE:=Aj e;clear e;go_enter func21,ntmps21;go_wp2;go_ret;exact⟨Az HE.symm,rfl⟩
  .have HE:=Aj (P1 (n:=n) (lo:=lo) (hi:=hi) (AE Za));go_enter func21,ntmps21;go_wp2;go_ret;exact⟨Az HE.symm,rfl⟩
 .have HE:=Aj (P1 (n:=n) (lo:=lo) (hi:=hi) (AB Za));go_enter func21,ntmps21;go_wp2;go_ret;exact⟨Az HE.symm,rfl⟩
theorem KX (n lo hi:Int)(w:World):Calls prog 25 #[.i n,.i lo,.i hi] w λe w'=>e=.returned (.bool (EX n lo hi))/\w'=w:=by
 by_cases h1:lo<=n
 .by_cases h2:n<=hi
  .have e:=Lq ⟨h1,h2⟩;have HE:=Aj e;clear e;go_enter func25,ntmps25;go_wp2;go_ret;exact⟨Az HE.symm,rfl⟩
  .have HE:=Aj (P1 (n:=n) (lo:=lo) (hi:=hi) (AE Za));go_enter func25,ntmps25;go_wp2;go_ret;exact⟨Az HE.symm,rfl⟩
 .have HE:=Aj (P1 (n:=n) (lo:=lo) (hi:=hi) (AB Za));go_enter func25,ntmps25;go_wp2;go_ret;exact⟨Az HE.symm,rfl⟩
theorem Pr (c:UInt8)(w:World):Calls prog 95 #[.int .u8 (c.toNat:Int)] w λe w'=>e=.returned (.bool (YU c))/\w'=w:=by go_enter func95,ntmps95;go_wp2;all_goals go_ret;refine⟨Az ?_,rfl⟩;rw[Bool.eq_iff_iff];simp[YU];try omega
def K9 (a b:ByteArray):Bool:=Op.bytesLess a.toList b.toList
theorem NO (a b:ByteArray)(w:World):Calls prog 97 #[.s a,.s b] w λe w'=>e=.returned (.bool (K9 a b))/\w'=w:=by go_enter func97,ntmps97;go_wp2;go_ret;exact⟨rfl,rfl⟩
theorem PX{s:ByteArray}(h:EX s.size 1 20=false):BB s=false:=by unfold BB;rw[h];rfl
theorem Ta{s:ByteArray}{k:Nat}(hk:k<s.size)(h:YU (Fw s k)=false):BB s=false:=by unfold BB;rw[A9 hk h];simp
theorem Tb{s:ByteArray}(h:EX s.size 1 20=true)(h2:∀i,i<s.size->YU (Fw s i)=true):BB s=true:=by unfold BB;rw[h,AV.2 h2];rfl
theorem LU (s:ByteArray)(w:World)(hs:(s.size:Int)<=140737488355328):Calls prog 83 #[.s s] w λe w'=>e=.returned (.bool (BB s))/\w'=w:=by
 by_cases h1:(s.size:Int)<1;.have HE:=Aj (PX (s:=s) (P1 (AB h1)));go_enter func83,ntmps83;go_wp2;go_ret;exact⟨Az HE.symm,rfl⟩
 by_cases h2:(20:Int)<s.size;.have HE:=Aj (PX (s:=s) (P1 (AE h2)));go_enter func83,ntmps83;go_wp2;go_ret;exact⟨Az HE.symm,rfl⟩
 go_enter func83,ntmps83;go_wp2;go_loop[14](λi=>∃k:Nat,k<=s.size/\i=.i k/\∀j,j<k->YU (Fw s j)=true)(λi=>s.size-(intOf i).toNat);case atStart=>exact⟨0,At _,rfl,λj hj=>absurd hj (Ai _)⟩
 case round=>
  obtain⟨k,hk,rfl,hall⟩:=hrel;by_cases hkn:k<s.size;.have HB:=Aj (Ol s k hkn);have HA:=Aj hall;clear hall;cases hc:YU (Fw s k)with
   |false=>
    have HE:=Aj (Ta hkn hc);have hc':YU s[k]=false:=by rw[<-HB.out];exact hc
    clear hc;go_wp2_with (go_at_call 95;refine(Pr _ _).mono ?_;rintro e w1 ⟨rfl,rfl⟩);go_ret;exact⟨Az HE.symm,rfl⟩
   |true=>
    have HE:=Aj hc;have hc':YU s[k]=true:=by rw[<-HB.out];exact hc
    clear hc;go_wp2_with (go_at_call 95;refine(Pr _ _).mono ?_;rintro e w1 ⟨rfl,rfl⟩);go_round;case rel=>exact⟨k+1,Za,by go_num,λj hj=>by
     rcases Aw j k with h3|h3;.exact HA j h3
     .have:j=k:=Za;subst this;exact HE⟩
    case measure=>simp[intOf];omega
  .have HE:=Aj (Tb (s:=s) (Lq ⟨Za,Za⟩) (λi hi=>hall i Za));clear hall;go_wp2;go_ret;exact⟨Az HE.symm,rfl⟩
theorem A7 (s:ByteArray)(w:World)(hs:(s.size:Int)<=140737488355328):Calls prog 55 #[.s s] w λe w'=>e=.returned (.bool (BB s))/\w'=w:=by cases hin:EX s.size 1 20 with
 |false=>have HE:=Aj (PX (s:=s) hin);go_enter func55,ntmps55;go_wp2_with (go_at_call 21;refine(BV _ _ _ _).mono ?_;rintro e w1 ⟨rfl,rfl⟩);go_ret;exact⟨Az HE.symm,rfl⟩
 |true=>
  have HI:=Aj hin;go_enter func55,ntmps55;go_wp2_with (go_at_call 21;refine(BV _ _ _ _).mono ?_;rintro e w1 ⟨rfl,rfl⟩);go_loop[3](λi=>∃k:Nat,k<=s.size/\i=.i k/\∀j,j<k->YU (Fw s j)=true)(λi=>s.size-(intOf i).toNat);case atStart=>exact⟨0,At _,rfl,λj hj=>absurd hj (Ai _)⟩
  case round=>
   obtain⟨k,hk,rfl,hall⟩:=hrel;by_cases hkn:k<s.size;.have HB:=Aj (Ol s k hkn);have HA:=Aj hall;clear hall hin;go_wp2;all_goals first
     |(go_ret;refine⟨Az (Ta hkn ?_).symm,rfl⟩;rw[HB.out];clear HB HA HI;go_light;simp only[Bool.not_eq_true',decide_eq_false_iff_not,beq_eq_false_iff_ne,ne_eq]at*;simp only[YU,Bool.or_eq_false_iff,Bool.and_eq_false_iff,decide_eq_false_iff_not,beq_eq_false_iff_ne,ne_eq];omega)
     |(
       have h9:YU (Fw s k)=true:=by rw[HB.out];clear HB HA HI;go_light;simp only[Bool.not_eq_false',decide_eq_true_eq,beq_iff_eq]at*;simp only[YU,Ms,Am,decide_eq_true_eq,beq_iff_eq];omega
       go_round;case rel=>exact⟨k+1,Za,by go_num,λj hj=>by
        rcases Aw j k with h3|h3;.exact HA j h3
        .have:j=k:=Za;subst this;exact h9⟩
       case measure=>simp[intOf];omega)
   .have HE:=Aj (Tb (s:=s) HI (λi hi=>hall i Za));clear hall hin;go_wp2;go_ret;exact⟨Az HE.symm,rfl⟩
def SN (n:Nat)(s:Nat->ByteArray):Bool:=Bg (λi=>BB (s i)&&(i==0||K9 (s (i-1)) (s i))) n
theorem Qo{w wr:World}{q nq:Nat}(h:wr=w.drewN q):∃q',wr.drewN nq=w.drewN q':=⟨q+nq,by rw[h];simp⟩
theorem kM (n:Nat)(s:Nat->ByteArray)(ad:OA)(cap:Nat)(w:World)(lo hi:Nat)(hl:(n:Int)<=140737488355328)(hm:∀i,i<n->((s i).size:Int)<=140737488355328)(hc:AD w lo hi ad n s):Calls prog 79 #[.l ad n cap] w λe w'=>e=.returned (.bool (SN n s))/\∃q,w'=w.drewN q:=by
 go_enter func79,ntmps79;go_wp2;go_loopw[3](λi wr=>∃k:Nat,k<=n/\i=.i k/\(∀j,j<k->(BB (s j)&&(j==0||K9 (s (j-1)) (s j)))=true)/\∃q,wr=w.drewN q)(λi _=>n-(intOf i).toNat);case atStart=>exact⟨0,At _,rfl,λj hj=>absurd hj (Ai _),0,rfl⟩
 case round=>
  obtain⟨k,hk,rfl,hall,q,hq⟩:=hrel;have HQ:=Aj hq;by_cases hkn:k<n
  .obtain⟨b,off,rfl,hlo,hbh,hcx0⟩:=hc k hkn;have hcx:wr.cell? ⟨b,off+k,none⟩=some (.s (s k)):=by rw[hq];exact hcx0
   have hmk:=hm k hkn;have HA:=Aj hall;clear hall hcx0;cases hn:BB (s k)with
   |false=>have HE:=Aj (A9 (p:=λi=>BB (s i)&&(i==0||K9 (s (i-1)) (s i))) hkn (by rw[hn];rfl));clear hc hm hq;go_wp2;go_quiet((go_at_call 55;go_must(exact Ld (A7 _ _ hmk))));go_wp2;go_ret;exact⟨Az HE.symm,Qo HQ⟩
   |true=>
    rcases Bi k with rfl|hpos
    .clear hc hm hq;have HN:=Aj (show(BB (s 0)&&((0:Nat)==0||K9 (s (0-1)) (s 0)))=true by rw[hn];rfl);simp only[Bs]at hcx;go_wp2;go_quiet((go_at_call 55;go_must(exact Ld (A7 _ _ hmk))));go_wp2;go_roundw;case rel=>exact⟨1,Za,by go_num,λj hj=>(by have:j=0:=Za;subst this;exact HN),Qo HQ⟩
     case measure=>simp[intOf];omega
    .obtain⟨m,rfl⟩:∃m,k=m+1:=⟨k-1,Za⟩;obtain⟨b',off',e,_,_,hcy0⟩:=hc m Za;cases e;have hcy:wr.cell? ⟨b,off+m,none⟩=some (.s (s m)):=by rw[hq];exact hcy0
     have hg:decide ((0:Int)<((m+1:Nat):Int))=true:=decide_eq_true Za;clear hc hm hq hcy0;cases hlt:K9 (s m) (s (m+1))with
     |false=>have HE:=Aj (A9 (p:=λi=>BB (s i)&&(i==0||K9 (s (i-1)) (s i))) hkn (by rw[hn];simp[hlt]));have hlt':Op.bytesLess (s m).toList (s (m+1)).toList=false:=hlt;clear hlt;go_wp2;go_quiet((go_at_call 55;go_must(exact Ld (A7 _ _ hmk))));go_wp2;go_ret;exact⟨Az HE.symm,Qo HQ⟩
     |true=>
      have HN:=Aj (show(BB (s (m+1))&&(m+1==0||K9 (s (m+1-1)) (s (m+1))))=true by rw[hn];simp[hlt]);have hlt':Op.bytesLess (s m).toList (s (m+1)).toList=true:=hlt;clear hlt;go_wp2;go_quiet((go_at_call 55;go_must(exact Ld (A7 _ _ hmk))));go_wp2;go_roundw;case rel=>exact⟨m+2,Za,by go_num,λj hj=>(by
       rcases Aw j (m+1)with h3|h3;.exact HA j h3
       .have:j=m+1:=Za;subst this;exact HN),Qo HQ⟩
      case measure=>simp[intOf];omega
  .have HE:=Aj (AV.2 (λi hi=>hall i Za));have:k=n:=Za;subst this;clear hall hc hm hq;go_wp2;go_ret;exact⟨Az HE.symm,q,HQ⟩
theorem An (w:World)(o:Obj):Below w.1.size w (w.alloc o):=(Aq _ _).alloc AQ o
def Y0 (n:Nat)(s:Nat->ByteArray):Bool:=Bg (λi=>i==0||K9 (s (i-1)) (s i)) n
theorem Nt (n:Nat)(s:Nat->ByteArray):SN n s=(Y0 n s&&Bg (λi=>BB (s i)) n):=by
 rw[Bool.eq_iff_iff,Am];unfold SN Y0;rw[AV,AV,AV];constructor;.intro h;exact⟨λi hi=>by have:=h i hi;simp only[Am]at this;exact this.2,λi hi=>by have:=h i hi;simp only[Am]at this;exact this.1⟩
 .intro h i hi;rw[Am];exact⟨h.2 i hi,h.1 i hi⟩
theorem UC (n:Nat)(s:Nat->ByteArray)(ad:OA)(cap:Nat)(w:World)(lo hi:Nat)(hl:(n:Int)<=140737488355328)(hc:AD w lo hi ad n s):Calls prog 96 #[.l ad n cap,.func (.func 97) #[] #[]] w λe w'=>e=.returned (.bool (Y0 n s))/\∃q,w'=w.drewN q:=by
 go_enter func96,ntmps96;go_wp2;go_loopw[5](λi wr=>∃k:Nat,1<=k/\(k<=n\/k=1)/\i=.i k/\(∀j,j<k->(j==0||K9 (s (j-1)) (s j))=true)/\∃q,wr=w.drewN q)(λi _=>n-(intOf i).toNat);case atStart=>exact⟨1,AG _,AE rfl,rfl,λj hj=>(by have:j=0:=Za;subst this;rfl),0,rfl⟩
 case round=>
  obtain⟨k,hk1,hk,rfl,hall,q,hq⟩:=hrel;have HQ:=Aj hq;by_cases hkn:k<n
  .obtain⟨m,rfl⟩:∃m,k=m+1:=⟨k-1,Za⟩;obtain⟨b,off,rfl,hlo,hbh,hcx0⟩:=hc (m+1) hkn;obtain⟨b',off',e,_,_,hcy0⟩:=hc m Za;cases e;have hcx:wr.cell? ⟨b,off+(m+1),none⟩=some (.s (s (m+1))):=by rw[hq];exact hcx0
   have hcy:wr.cell? ⟨b,off+m,none⟩=some (.s (s m)):=by rw[hq];exact hcy0
   have HA:=Aj hall;have hkz:(m:Int)+1<=n:=Za;clear hall hcx0 hcy0 hc hq hk;cases hlt:K9 (s m) (s (m+1))with
   |false=>have HE:=Aj (A9 (p:=λi=>i==0||K9 (s (i-1)) (s i)) hkn (by simp[hlt]));go_wp2;go_quiet((go_at_call 97;go_must(exact Ld (NO _ _ _))));go_wp2;go_ret;exact⟨Az HE.symm,Qo HQ⟩
   |true=>
    have HN:=Aj (show(m+1==0||K9 (s (m+1-1)) (s (m+1)))=true by simp[hlt]);go_wp2;go_quiet((go_at_call 97;go_must(exact Ld (NO _ _ _))));go_wp2;go_roundw;case rel=>exact⟨m+2,Za,AB Za,by go_num,λj hj=>(by
     rcases Aw j (m+1)with h3|h3;.exact HA j h3
     .have:j=m+1:=Za;subst this;exact HN),Qo HQ⟩
    case measure=>simp[intOf];omega
  .have HE:=Aj (AV.2 (λi hi=>hall i Za):Y0 n s=true);clear hall hc hq hk;go_wp2;go_ret;exact⟨Az HE.symm,q,HQ⟩
def Ew (n:Nat)(s:Nat->ByteArray):Bool:=decide (n<=5)&&SN n s
theorem TV (n:Nat)(s:Nat->ByteArray)(ad:OA)(cap:Nat)(w:World)(lo hi:Nat)(hl:(n:Int)<=140737488355328)(hm:∀i,i<n->((s i).size:Int)<=140737488355328)(hc:AD w lo hi ad n s):Calls prog 84 #[.l ad n cap] w λe w'=>e=.returned (.bool (Ew n s))/\∃q,w'=w.drewN q:=by
 by_cases h5:(5:Int)<n;.have HE:=Aj (show Ew n s=false by unfold Ew;rw[decide_eq_false Za];rfl);go_enter func84,ntmps84;go_wp2;go_ret;exact⟨Az HE.symm,0,rfl⟩
 cases ha:Y0 n s with
 |false=>have HE:=Aj (show Ew n s=false by unfold Ew;rw[Nt,ha];simp);go_enter func84,ntmps84;go_wp2_with (go_at_call 96;refine(UC n s ad cap _ lo hi hl hc).mono ?_;rintro e w1 ⟨rfl,q,rfl⟩);go_ret;exact⟨Az HE.symm,_,rfl⟩
 |true=>
  have sV:=Aj ha;go_enter func84,ntmps84;go_wp2_with (go_at_call 96;refine(UC n s ad cap _ lo hi hl hc).mono ?_;rintro e w1 ⟨rfl,q0,rfl⟩);go_loop[15](λi=>∃k:Nat,k<=n/\i=.i k/\∀j,j<k->BB (s j)=true)(λi=>n-(intOf i).toNat);case atStart=>exact⟨0,At _,rfl,λj hj=>absurd hj (Ai _)⟩
  case round=>
   obtain⟨k,hk,rfl,hall⟩:=hrel;by_cases hkn:k<n;.obtain⟨b,off,rfl,hlo,hbh,hcx⟩:=hc k hkn;have hmk:=hm k hkn;have HA:=Aj hall;clear hall hc hm ha;cases hn:BB (s k)with
    |false=>have HE:=Aj (show Ew n s=false by unfold Ew;rw[Nt,A9 (p:=λi=>BB (s i)) hkn hn];simp);go_wp2_with (go_at_call 83;refine(LU _ _ hmk).mono ?_;rintro e w1 ⟨rfl,rfl⟩);go_ret;exact⟨Az HE.symm,_,rfl⟩
    |true=>
     have HN:=Aj hn;go_wp2_with (go_at_call 83;refine(LU _ _ hmk).mono ?_;rintro e w1 ⟨rfl,rfl⟩);go_round;case rel=>exact⟨k+1,Za,by go_num,λj hj=>(by
      rcases Aw j k with h3|h3;.exact HA j h3
      .have:j=k:=Za;subst this;exact HN)⟩
     case measure=>simp[intOf];omega
   .have HE:=Aj (show Ew n s=true by unfold Ew;rw[Nt,sV.out,decide_eq_true (show n<=5 by omega),AV.2 (λi hi=>hall i Za)];rfl);clear hall hc hm ha;go_wp2;go_ret;exact⟨Az HE.symm,_,rfl⟩
def C6 (x:Ob):Bool:=!x.ending||decide (0<x.hn)
def NX (x:Ob):Bool:=x.ending&&(decide (x.hn=0)&&decide (x.born<x.ver))
theorem PH (x:Ob)(ad:OA)(cap:Nat)(w:World)(hl:(x.hn:Int)<=140737488355328):Calls prog 62 #[.agg (vO x ad cap)] w λe w'=>e=.returned (.bool (C6 x))/\Below w.1.size w w':=by obtain⟨ki,na,ve,bo,te,en,hn,hs⟩:=x;dsimp only at hl⊢;cases en with
 |false=>go_enter func62,ntmps62;go_wp2;go_ret;exact⟨rfl,An _ _⟩
 |true=>go_enter func62,ntmps62;go_wp2;go_ret;refine⟨Az ?_,An _ _⟩;simp[C6]
theorem SM (x:Ob)(ad:OA)(cap:Nat)(w:World)(hl:(x.hn:Int)<=140737488355328):Calls prog 85 #[.agg (vO x ad cap)] w λe w'=>e=.returned (.bool (NX x))/\Below w.1.size w w':=by obtain⟨ki,na,ve,bo,te,en,hn,hs⟩:=x;dsimp only at hl⊢;cases en with
 |false=>go_enter func85,ntmps85;go_wp2;go_ret;exact⟨rfl,An _ _⟩
 |true=>
  rcases Bi hn with rfl|hp;.go_enter func85,ntmps85;go_wp2;go_ret;exact⟨Az (by simp[NX]),An _ _⟩
  .have he:((hn:Int)==0)=false:=Zd;have HE:=Aj (show NX ⟨ki,na,ve,bo,te,true,hn,hs⟩=false by simp[NX];omega);go_enter func85,ntmps85;go_wp2;go_ret;exact⟨Az HE.symm,An _ _⟩
def EU (x z:Ob):Int:=if K9 x.kind z.kind then-1 else if x.kind.toList=z.kind.toList then(if K9 x.name z.name then-1 else if x.name.toList=z.name.toList then 0 else 1)else 1
def Fi (x z:Ob):Bool:=if x.kind.toList=z.kind.toList then K9 x.name z.name else K9 x.kind z.kind
theorem Q9{P:Prop}(h:P:=by go_enter func50,ntmps50;go_wp2;go_ret;exact⟨MR HE.symm,HB _ _⟩):P:=h
theorem Oj (x z:Ob)(ad ad2:OA)(cap cap2:Nat)(w:World):Calls prog 50 #[.agg (vO x ad cap),.agg (vO z ad2 cap2)] w λe w'=>e=.returned (.i (EU x z))/\Below w.1.size w w':=by have hB:∀o1 o2:Obj,Below w.1.size w ((w.alloc o1).alloc o2):=λo1 o2=>(An _ _).alloc Zc _;have HB:=Aj hB;clear hB;cases h1:K9 x.kind z.kind with
 |true=>have HE:=Aj (show EU x z=-1 by unfold EU;rw[h1];rfl);have h1':Op.bytesLess x.kind.toList z.kind.toList=true:=h1;clear h1;exact Q9
 |false=>
  have h1':Op.bytesLess x.kind.toList z.kind.toList=false:=h1;by_cases h2:x.kind.toList=z.kind.toList
  .have h2':(x.kind.toList==z.kind.toList)=true:=by simp[h2]
   cases h3:K9 x.name z.name with
   |true=>have HE:=Aj (show EU x z=-1 by unfold EU;rw[h1,if_pos h2,h3];rfl);have h3':Op.bytesLess x.name.toList z.name.toList=true:=h3;clear h1 h2 h3;exact Q9
   |false=>
    have h3':Op.bytesLess x.name.toList z.name.toList=false:=h3;by_cases h4:x.name.toList=z.name.toList
    .have HE:=Aj (show EU x z=0 by unfold EU;rw[h1,if_pos h2,h3,if_pos h4];rfl);have h4':(x.name.toList==z.name.toList)=true:=by simp[h4]
     clear h1 h2 h3 h4;exact Q9
    .have HE:=Aj (show EU x z=1 by unfold EU;rw[h1,if_pos h2,h3,if_neg h4];rfl);have h4':(x.name.toList==z.name.toList)=false:=by simp[h4]
     clear h1 h2 h3 h4;exact Q9
  .have HE:=Aj (show EU x z=1 by unfold EU;rw[h1,if_neg h2];rfl);have h2':(x.kind.toList==z.kind.toList)=false:=by simp[h2]
   clear h1 h2;exact Q9
end Go.Proofs.YtnnjcenacidceaaGreat
