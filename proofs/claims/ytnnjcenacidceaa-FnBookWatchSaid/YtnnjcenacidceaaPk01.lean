import Derived.Test.YtnnjcenacidceaaAp
import Derived.Test.YtnnjcenacidceaaRows
import Derived.WalkKit
import Derived.WalkSpells
import Derived.WalkLawsBesides
import Derived.Laws.IdiomStrings
import Derived.Deep.RegionWith
import Derived.Deep.QuietTactic
import Derived.BigQuiet
import Derived.Deep.Light
set_option maxRecDepth 100000
set_option maxHeartbeats 1000000
namespace Go.Proofs.Ytnnjcenacidceaa
open Go.RowKit Go.Proofs.Try
theorem Ah{p:Prop}(h:p):Hid p:=h
def AB (w:World)(lo hi:Nat)(ad:OA)(n:Nat)(s:Nat->ByteArray):Prop:=∀i,i<n->∃b off,ad=some ⟨b,off,none⟩/\lo<=b/\b<hi/\w.cell? ⟨b,off+i,none⟩=some (.s (s i))
def Bz (w:World)(lo hi:Nat)(ad:OA)(n:Nat)(s:Nat->ByteArray):Prop:=∀i,i<n->∃b off,ad=some ⟨b,off,none⟩/\lo<=b/\b<hi/\w.cell? ⟨b,off+i,none⟩=some (.s (s i))/\w.frozen? ⟨b,off+i,none⟩=false
def MW (w:World)(n:Nat)(ad:OA)(cap:Nat):Prop:=n<=cap/\((ad=none/\n=0/\cap=0)\/∃b off,ad=some ⟨b,off,none⟩/\b<w.1.size)
theorem MW.grow{w w':World}{n:Nat}{ad:OA}{cap:Nat}(h:MW w n ad cap)(hz:w.1.size<=w'.1.size):MW w' n ad cap:=⟨h.1,h.2.imp id (λ⟨b,off,e1,e2⟩=>⟨b,off,e1,Ac e2 hz⟩)⟩
theorem Lf:(prog.info? 9).map (λi=>(i.zero,i.size,i.bytes))=some (some (.s ByteArray.empty),1,16):=Ze
theorem MF{k:IntKind}{a b:Int}(h:a=b):Ending.returned (.int k a)=.returned (.int k b):=by rw[h]
structure Fr (lo hi:Nat)(w w':World):Prop where
 os:w'.os=w.os
 tape:w'.tape=w.tape
 output:w'.output=w.output
 size:w.1.size<=w'.1.size
 block:∀k,k<w.1.size->(k<lo\/hi<=k)->w'.heap[k]?=w.heap[k]?
theorem Fr.refl (lo hi:Nat)(w:World):Fr lo hi w w:=⟨rfl,rfl,rfl,AD _,λ_ _ _=>rfl⟩
theorem Fr.trans{lo hi:Nat}{a b c:World}(h:Fr lo hi a b)(k:Fr lo hi b c):Fr lo hi a c:=⟨k.os.trans h.os,k.tape.trans h.tape,k.output.trans h.output,AT h.size k.size,λi hi ho=>(k.block i (Ac hi h.size) ho).trans (h.block i hi ho)⟩
theorem Vu{lo hi:Nat}{w w':World}(h:Below w.1.size w w'):Fr lo hi w w':=⟨h.os,h.tape,h.output,h.size,λi hi _=>h.block i hi⟩
theorem Fr.setCell{lo hi:Nat}{a w:World}(h:Fr lo hi a w){p:Addr}(h1:lo<=p.block)(h2:p.block<hi)(u:Value):Fr lo hi a (w.setCell p u):=h.trans ⟨rfl,rfl,rfl,by simp[World.setCell],λk _ ho=>Below.heap_setCell _ _ _ _ Za⟩
theorem Fr.cell{lo hi:Nat}{w w':World}(h:Fr lo hi w w'){p:Addr}(hp:p.block<w.1.size)(ho:p.block<lo\/hi<=p.block):w'.cell? p=w.cell? p:=World.cell?_of_block (w:=w) (h.block p.block hp ho)
theorem Fr.frozen{lo hi:Nat}{w w':World}(h:Fr lo hi w w'){p:Addr}(hp:p.block<w.1.size)(ho:p.block<lo\/hi<=p.block):w'.frozen? p=w.frozen? p:=World.frozen?_of_block (w:=w) (h.block p.block hp ho)
theorem Fr.below{lo hi:Nat}{w w':World}(h:Fr lo hi w w'){B:Nat}(hB:B<=lo)(hs:B<=w.1.size):Below B w w':=⟨h.os,h.tape,h.output,h.size,λk hk=>h.block k Za (AA Za)⟩
theorem AB.below{w w':World}{B lo hi:Nat}{ad:OA}{n:Nat}{s:Nat->ByteArray}(h:AB w lo hi ad n s)(hb:Below B w w')(hB:hi<=B):AB w' lo hi ad n s:=λi hi'=>by obtain⟨b,off,e1,e2,e3,e4⟩:=h i hi';exact⟨b,off,e1,e2,e3,(hb.cell (p:=⟨b,off+i,none⟩) (Ac e3 hB)).trans e4⟩
theorem AB.alloc{w:World}{lo hi:Nat}{ad:OA}{n:Nat}{s:Nat->ByteArray}(h:AB w lo hi ad n s)(hB:hi<=w.1.size)(o:Obj):AB (w.alloc o) lo hi ad n s:=h.below ((Ao w.1.size w).alloc uK o) hB
structure Ob where
 kind:ByteArray
 name:ByteArray
 ver:Int
 born:Int
 text:ByteArray
 ending:Bool
 hn:Nat
 hs:Nat->ByteArray
abbrev vO (x:Ob)(A:OA)(C:Nat):Array Value:=#[.s x.kind,.s x.name,.i x.ver,.i x.born,.s x.text,.bool x.ending,.l A x.hn C]
abbrev nJ (x:Ob)(A:OA)(C:Nat):List Value:=[.s x.kind,.s x.name,.i x.ver,.i x.born,.s x.text,.bool x.ending,.l A x.hn C]
def EG (n lo hi:Int):Bool:=decide (lo<=n)&&decide (n<=hi)
theorem K6{n lo hi:Int}(h:lo<=n/\n<=hi):EG n lo hi=true:=by simp[EG,h.1,h.2]
theorem PG{n lo hi:Int}(h:n<lo\/hi<n):EG n lo hi=false:=by rcases h with h|h<;>simp[EG]<;>omega
theorem MJ{n lo hi:Int}(h:EG n lo hi=true):lo<=n/\n<=hi:=by simpa[EG]using h
theorem Ay{a b:Bool}(h:a=b):Ending.returned (.bool a)=.returned (.bool b):=by rw[h]
def Bc (p:Nat->Bool):Nat->Bool|0=>true|k+1=>Bc p k&&p k
theorem AP{p:Nat->Bool}:∀{n:Nat},Bc p n=true↔∀i,i<n->p i=true
 |0=>⟨λ_ i h=>absurd h (Aj _),λ_=>rfl⟩
 |n+1=>by simp only[Bc,Al,AP (n:=n)];exact⟨λh i hi=>by
    rcases Au i n with h1|h1;.exact h.1 i h1
    .have:i=n:=Za;subst this;exact h.2,λh=>⟨λi hi=>h i Za,h n Za⟩⟩
theorem AX{p:Nat->Bool}{n i:Nat}(hi:i<n)(h:p i=false):Bc p n=false:=by cases hc:Bc p n with
 |false=>rfl
 |true=>rw[AP.1 hc i hi]at h;cases h
def YM (c:UInt8):Bool:=(decide (97<=c.toNat)&&decide (c.toNat<=122))||(decide (48<=c.toNat)&&decide (c.toNat<=57))||c.toNat==45||c.toNat==46
def Ft (s:ByteArray)(i:Nat):UInt8:=if h:i<s.size then s[i]else 0
def Bv (s:ByteArray):Bool:=EG s.size 1 20&&Bc (λi=>YM (Ft s i)) s.size
theorem NW (s:ByteArray)(k:Nat)(h:k<s.size):Ft s k=s[k]:=dif_pos h
theorem BM (n lo hi:Int)(w:World):Calls prog 37 #[.i n,.i lo,.i hi] w λe w'=>e=.returned (.bool (EG n lo hi))/\w'=w:=by
 by_cases h1:lo<=n
 .by_cases h2:n<=hi
  .have e:=K6 ⟨h1,h2⟩;have HE:=Ah e;clear e;go_enter func37,ntmps37;go_wp2;go_ret;exact⟨Ay HE.symm,rfl⟩
  .have HE:=Ah (PG (n:=n) (lo:=lo) (hi:=hi) (AC Za));go_enter func37,ntmps37;go_wp2;go_ret;exact⟨Ay HE.symm,rfl⟩
 .have HE:=Ah (PG (n:=n) (lo:=lo) (hi:=hi) (AA Za));go_enter func37,ntmps37;go_wp2;go_ret;exact⟨Ay HE.symm,rfl⟩
theorem KL (n lo hi:Int)(w:World):Calls prog 14 #[.i n,.i lo,.i hi] w λe w'=>e=.returned (.bool (EG n lo hi))/\w'=w:=by
 by_cases h1:lo<=n
 .by_cases h2:n<=hi
  .have e:=K6 ⟨h1,h2⟩;have HE:=Ah e;clear e;go_enter func14,ntmps14;go_wp2;go_ret;exact⟨Ay HE.symm,rfl⟩
  .have HE:=Ah (PG (n:=n) (lo:=lo) (hi:=hi) (AC Za));go_enter func14,ntmps14;go_wp2;go_ret;exact⟨Ay HE.symm,rfl⟩
 .have HE:=Ah (PG (n:=n) (lo:=lo) (hi:=hi) (AA Za));go_enter func14,ntmps14;go_wp2;go_ret;exact⟨Ay HE.symm,rfl⟩
theorem OW (c:UInt8)(w:World):Calls prog 90 #[.int .u8 (c.toNat:Int)] w λe w'=>e=.returned (.bool (YM c))/\w'=w:=by go_enter func90,ntmps90;go_wp2;all_goals go_ret;refine⟨Ay ?_,rfl⟩;rw[Bool.eq_iff_iff];simp[YM];try omega
def KW (a b:ByteArray):Bool:=Op.bytesLess a.toList b.toList
theorem NI (a b:ByteArray)(w:World):Calls prog 92 #[.s a,.s b] w λe w'=>e=.returned (.bool (KW a b))/\w'=w:=by go_enter func92,ntmps92;go_wp2;go_ret;exact⟨rfl,rfl⟩
theorem Ph{s:ByteArray}(h:EG s.size 1 20=false):Bv s=false:=by unfold Bv;rw[h];rfl
theorem SC{s:ByteArray}{k:Nat}(hk:k<s.size)(h:YM (Ft s k)=false):Bv s=false:=by unfold Bv;rw[AX hk h];simp
theorem SR{s:ByteArray}(h:EG s.size 1 20=true)(h2:∀i,i<s.size->YM (Ft s i)=true):Bv s=true:=by unfold Bv;rw[h,AP.2 h2];rfl
theorem LB (s:ByteArray)(w:World)(hs:(s.size:Int)<=140737488355328):Calls prog 75 #[.s s] w λe w'=>e=.returned (.bool (Bv s))/\w'=w:=by
 by_cases h1:(s.size:Int)<1;.have HE:=Ah (Ph (s:=s) (PG (AA h1)));go_enter func75,ntmps75;go_wp2;go_ret;exact⟨Ay HE.symm,rfl⟩
 by_cases h2:(20:Int)<s.size;.have HE:=Ah (Ph (s:=s) (PG (AC h2)));go_enter func75,ntmps75;go_wp2;go_ret;exact⟨Ay HE.symm,rfl⟩
 go_enter func75,ntmps75;go_wp2;go_loop[14](λi=>∃k:Nat,k<=s.size/\i=.i k/\∀j,j<k->YM (Ft s j)=true)(λi=>s.size-(intOf i).toNat);case atStart=>exact⟨0,At _,rfl,λj hj=>absurd hj (Aj _)⟩
 case round=>
  obtain⟨k,hk,rfl,hall⟩:=hrel;by_cases hkn:k<s.size;.have HB:=Ah (NW s k hkn);have HA:=Ah hall;clear hall;cases hc:YM (Ft s k)with
   |false=>
    have HE:=Ah (SC hkn hc);have hc':YM s[k]=false:=by rw[<-HB.out];exact hc
    clear hc;go_wp2_with (go_at_call 90;refine(OW _ _).mono ?_;rintro e w1 ⟨rfl,rfl⟩);go_ret;exact⟨Ay HE.symm,rfl⟩
   |true=>
    have HE:=Ah hc;have hc':YM s[k]=true:=by rw[<-HB.out];exact hc
    clear hc;go_wp2_with (go_at_call 90;refine(OW _ _).mono ?_;rintro e w1 ⟨rfl,rfl⟩);go_round;case rel=>exact⟨k+1,Za,by go_num,λj hj=>by
     rcases Au j k with h3|h3;.exact HA j h3
     .have:j=k:=Za;subst this;exact HE⟩
    case measure=>simp[intOf];omega
  .have HE:=Ah (SR (s:=s) (K6 ⟨Za,Za⟩) (λi hi=>hall i Za));clear hall;go_wp2;go_ret;exact⟨Ay HE.symm,rfl⟩
theorem AV (s:ByteArray)(w:World)(hs:(s.size:Int)<=140737488355328):Calls prog 67 #[.s s] w λe w'=>e=.returned (.bool (Bv s))/\w'=w:=by cases hin:EG s.size 1 20 with
 |false=>have HE:=Ah (Ph (s:=s) hin);go_enter func67,ntmps67;go_wp2_with (go_at_call 37;refine(BM _ _ _ _).mono ?_;rintro e w1 ⟨rfl,rfl⟩);go_ret;exact⟨Ay HE.symm,rfl⟩
 |true=>
  have HI:=Ah hin;go_enter func67,ntmps67;go_wp2_with (go_at_call 37;refine(BM _ _ _ _).mono ?_;rintro e w1 ⟨rfl,rfl⟩);go_loop[3](λi=>∃k:Nat,k<=s.size/\i=.i k/\∀j,j<k->YM (Ft s j)=true)(λi=>s.size-(intOf i).toNat);case atStart=>exact⟨0,At _,rfl,λj hj=>absurd hj (Aj _)⟩
  case round=>
   obtain⟨k,hk,rfl,hall⟩:=hrel;by_cases hkn:k<s.size;.have HB:=Ah (NW s k hkn);have HA:=Ah hall;clear hall hin;go_wp2;all_goals first
     |(go_ret;refine⟨Ay (SC hkn ?_).symm,rfl⟩;rw[HB.out];clear HB HA HI;go_light;simp only[Bool.not_eq_true',decide_eq_false_iff_not,beq_eq_false_iff_ne,ne_eq]at*;simp only[YM,Bool.or_eq_false_iff,Bool.and_eq_false_iff,decide_eq_false_iff_not,beq_eq_false_iff_ne,ne_eq];omega)
     |(
       have h9:YM (Ft s k)=true:=by rw[HB.out];clear HB HA HI;go_light;simp only[Bool.not_eq_false',decide_eq_true_eq,beq_iff_eq]at*;simp only[YM,L9,Al,decide_eq_true_eq,beq_iff_eq];omega
       go_round;case rel=>exact⟨k+1,Za,by go_num,λj hj=>by
        rcases Au j k with h3|h3;.exact HA j h3
        .have:j=k:=Za;subst this;exact h9⟩
       case measure=>simp[intOf];omega)
   .have HE:=Ah (SR (s:=s) HI (λi hi=>hall i Za));clear hall hin;go_wp2;go_ret;exact⟨Ay HE.symm,rfl⟩
def Sw (n:Nat)(s:Nat->ByteArray):Bool:=Bc (λi=>Bv (s i)&&(i==0||KW (s (i-1)) (s i))) n
theorem P9{w wr:World}{q nq:Nat}(h:wr=w.drewN q):∃q',wr.drewN nq=w.drewN q':=⟨q+nq,by rw[h];simp⟩
theorem kB (n:Nat)(s:Nat->ByteArray)(ad:OA)(cap:Nat)(w:World)(lo hi:Nat)(hl:(n:Int)<=140737488355328)(hm:∀i,i<n->((s i).size:Int)<=140737488355328)(hc:AB w lo hi ad n s):Calls prog 80 #[.l ad n cap] w λe w'=>e=.returned (.bool (Sw n s))/\∃q,w'=w.drewN q:=by
 go_enter func80,ntmps80;go_wp2;go_loopw[3](λi wr=>∃k:Nat,k<=n/\i=.i k/\(∀j,j<k->(Bv (s j)&&(j==0||KW (s (j-1)) (s j)))=true)/\∃q,wr=w.drewN q)(λi _=>n-(intOf i).toNat);case atStart=>exact⟨0,At _,rfl,λj hj=>absurd hj (Aj _),0,rfl⟩
 case round=>
  obtain⟨k,hk,rfl,hall,q,hq⟩:=hrel;have HQ:=Ah hq;by_cases hkn:k<n
  .obtain⟨b,off,rfl,hlo,hbh,hcx0⟩:=hc k hkn;have hcx:wr.cell? ⟨b,off+k,none⟩=some (.s (s k)):=by rw[hq];exact hcx0
   have hmk:=hm k hkn;have HA:=Ah hall;clear hall hcx0;cases hn:Bv (s k)with
   |false=>have HE:=Ah (AX (p:=λi=>Bv (s i)&&(i==0||KW (s (i-1)) (s i))) hkn (by rw[hn];rfl));clear hc hm hq;go_wp2;go_quiet((go_at_call 67;go_must(exact KV (AV _ _ hmk))));go_wp2;go_ret;exact⟨Ay HE.symm,P9 HQ⟩
   |true=>
    rcases Bm k with rfl|hpos
    .clear hc hm hq;have HN:=Ah (show(Bv (s 0)&&((0:Nat)==0||KW (s (0-1)) (s 0)))=true by rw[hn];rfl);simp only[Bi]at hcx;go_wp2;go_quiet((go_at_call 67;go_must(exact KV (AV _ _ hmk))));go_wp2;go_roundw;case rel=>exact⟨1,Za,by go_num,λj hj=>(by have:j=0:=Za;subst this;exact HN),P9 HQ⟩
     case measure=>simp[intOf];omega
    .obtain⟨m,rfl⟩:∃m,k=m+1:=⟨k-1,Za⟩;obtain⟨b',off',e,_,_,hcy0⟩:=hc m Za;cases e;have hcy:wr.cell? ⟨b,off+m,none⟩=some (.s (s m)):=by rw[hq];exact hcy0
     have hg:decide ((0:Int)<((m+1:Nat):Int))=true:=decide_eq_true Za;clear hc hm hq hcy0;cases hlt:KW (s m) (s (m+1))with
     |false=>have HE:=Ah (AX (p:=λi=>Bv (s i)&&(i==0||KW (s (i-1)) (s i))) hkn (by rw[hn];simp[hlt]));have hlt':Op.bytesLess (s m).toList (s (m+1)).toList=false:=hlt;clear hlt;go_wp2;go_quiet((go_at_call 67;go_must(exact KV (AV _ _ hmk))));go_wp2;go_ret;exact⟨Ay HE.symm,P9 HQ⟩
     |true=>
      have HN:=Ah (show(Bv (s (m+1))&&(m+1==0||KW (s (m+1-1)) (s (m+1))))=true by rw[hn];simp[hlt]);have hlt':Op.bytesLess (s m).toList (s (m+1)).toList=true:=hlt;clear hlt;go_wp2;go_quiet((go_at_call 67;go_must(exact KV (AV _ _ hmk))));go_wp2;go_roundw;case rel=>exact⟨m+2,Za,by go_num,λj hj=>(by
       rcases Au j (m+1)with h3|h3;.exact HA j h3
       .have:j=m+1:=Za;subst this;exact HN),P9 HQ⟩
      case measure=>simp[intOf];omega
  .have HE:=Ah (AP.2 (λi hi=>hall i Za));have:k=n:=Za;subst this;clear hall hc hm hq;go_wp2;go_ret;exact⟨Ay HE.symm,q,HQ⟩
theorem Am (w:World)(o:Obj):Below w.1.size w (w.alloc o):=(Ao _ _).alloc uK o
def Ys (n:Nat)(s:Nat->ByteArray):Bool:=Bc (λi=>i==0||KW (s (i-1)) (s i)) n
theorem Nd (n:Nat)(s:Nat->ByteArray):Sw n s=(Ys n s&&Bc (λi=>Bv (s i)) n):=by
 rw[Bool.eq_iff_iff,Al];unfold Sw Ys;rw[AP,AP,AP];constructor;.intro h;exact⟨λi hi=>by have:=h i hi;simp only[Al]at this;exact this.2,λi hi=>by have:=h i hi;simp only[Al]at this;exact this.1⟩
 .intro h i hi;rw[Al];exact⟨h.2 i hi,h.1 i hi⟩
theorem Uy (n:Nat)(s:Nat->ByteArray)(ad:OA)(cap:Nat)(w:World)(lo hi:Nat)(hl:(n:Int)<=140737488355328)(hc:AB w lo hi ad n s):Calls prog 91 #[.l ad n cap,.func (.func 92) #[] #[]] w λe w'=>e=.returned (.bool (Ys n s))/\∃q,w'=w.drewN q:=by
 go_enter func91,ntmps91;go_wp2;go_loopw[5](λi wr=>∃k:Nat,1<=k/\(k<=n\/k=1)/\i=.i k/\(∀j,j<k->(j==0||KW (s (j-1)) (s j))=true)/\∃q,wr=w.drewN q)(λi _=>n-(intOf i).toNat);case atStart=>exact⟨1,AD _,AC rfl,rfl,λj hj=>(by have:j=0:=Za;subst this;rfl),0,rfl⟩
 case round=>
  obtain⟨k,hk1,hk,rfl,hall,q,hq⟩:=hrel;have HQ:=Ah hq;by_cases hkn:k<n
  .obtain⟨m,rfl⟩:∃m,k=m+1:=⟨k-1,Za⟩;obtain⟨b,off,rfl,hlo,hbh,hcx0⟩:=hc (m+1) hkn;obtain⟨b',off',e,_,_,hcy0⟩:=hc m Za;cases e;have hcx:wr.cell? ⟨b,off+(m+1),none⟩=some (.s (s (m+1))):=by rw[hq];exact hcx0
   have hcy:wr.cell? ⟨b,off+m,none⟩=some (.s (s m)):=by rw[hq];exact hcy0
   have HA:=Ah hall;have hkz:(m:Int)+1<=n:=Za;clear hall hcx0 hcy0 hc hq hk;cases hlt:KW (s m) (s (m+1))with
   |false=>have HE:=Ah (AX (p:=λi=>i==0||KW (s (i-1)) (s i)) hkn (by simp[hlt]));go_wp2;go_quiet((go_at_call 92;go_must(exact KV (NI _ _ _))));go_wp2;go_ret;exact⟨Ay HE.symm,P9 HQ⟩
   |true=>
    have HN:=Ah (show(m+1==0||KW (s (m+1-1)) (s (m+1)))=true by simp[hlt]);go_wp2;go_quiet((go_at_call 92;go_must(exact KV (NI _ _ _))));go_wp2;go_roundw;case rel=>exact⟨m+2,Za,AA Za,by go_num,λj hj=>(by
     rcases Au j (m+1)with h3|h3;.exact HA j h3
     .have:j=m+1:=Za;subst this;exact HN),P9 HQ⟩
    case measure=>simp[intOf];omega
  .have HE:=Ah (AP.2 (λi hi=>hall i Za):Ys n s=true);clear hall hc hq hk;go_wp2;go_ret;exact⟨Ay HE.symm,q,HQ⟩
def EB (n:Nat)(s:Nat->ByteArray):Bool:=decide (n<=5)&&Sw n s
theorem Tv (n:Nat)(s:Nat->ByteArray)(ad:OA)(cap:Nat)(w:World)(lo hi:Nat)(hl:(n:Int)<=140737488355328)(hm:∀i,i<n->((s i).size:Int)<=140737488355328)(hc:AB w lo hi ad n s):Calls prog 76 #[.l ad n cap] w λe w'=>e=.returned (.bool (EB n s))/\∃q,w'=w.drewN q:=by
 by_cases h5:(5:Int)<n;.have HE:=Ah (show EB n s=false by unfold EB;rw[decide_eq_false Za];rfl);go_enter func76,ntmps76;go_wp2;go_ret;exact⟨Ay HE.symm,0,rfl⟩
 cases ha:Ys n s with
 |false=>have HE:=Ah (show EB n s=false by unfold EB;rw[Nd,ha];simp);go_enter func76,ntmps76;go_wp2_with (go_at_call 91;refine(Uy n s ad cap _ lo hi hl hc).mono ?_;rintro e w1 ⟨rfl,q,rfl⟩);go_ret;exact⟨Ay HE.symm,_,rfl⟩
 |true=>
  have rX:=Ah ha;go_enter func76,ntmps76;go_wp2_with (go_at_call 91;refine(Uy n s ad cap _ lo hi hl hc).mono ?_;rintro e w1 ⟨rfl,q0,rfl⟩);go_loop[15](λi=>∃k:Nat,k<=n/\i=.i k/\∀j,j<k->Bv (s j)=true)(λi=>n-(intOf i).toNat);case atStart=>exact⟨0,At _,rfl,λj hj=>absurd hj (Aj _)⟩
  case round=>
   obtain⟨k,hk,rfl,hall⟩:=hrel;by_cases hkn:k<n;.obtain⟨b,off,rfl,hlo,hbh,hcx⟩:=hc k hkn;have hmk:=hm k hkn;have HA:=Ah hall;clear hall hc hm ha;cases hn:Bv (s k)with
    |false=>have HE:=Ah (show EB n s=false by unfold EB;rw[Nd,AX (p:=λi=>Bv (s i)) hkn hn];simp);go_wp2_with (go_at_call 75;refine(LB _ _ hmk).mono ?_;rintro e w1 ⟨rfl,rfl⟩);go_ret;exact⟨Ay HE.symm,_,rfl⟩
    |true=>
     have HN:=Ah hn;go_wp2_with (go_at_call 75;refine(LB _ _ hmk).mono ?_;rintro e w1 ⟨rfl,rfl⟩);go_round;case rel=>exact⟨k+1,Za,by go_num,λj hj=>(by
      rcases Au j k with h3|h3;.exact HA j h3
      .have:j=k:=Za;subst this;exact HN)⟩
     case measure=>simp[intOf];omega
   .have HE:=Ah (show EB n s=true by unfold EB;rw[Nd,rX.out,decide_eq_true (show n<=5 by omega),AP.2 (λi hi=>hall i Za)];rfl);clear hall hc hm ha;go_wp2;go_ret;exact⟨Ay HE.symm,_,rfl⟩
def CW (x:Ob):Bool:=!x.ending||decide (0<x.hn)
def NA (x:Ob):Bool:=x.ending&&(decide (x.hn=0)&&decide (x.born<x.ver))
theorem OL (x:Ob)(ad:OA)(cap:Nat)(w:World)(hl:(x.hn:Int)<=140737488355328):Calls prog 48 #[.agg (vO x ad cap)] w λe w'=>e=.returned (.bool (CW x))/\Below w.1.size w w':=by obtain⟨ki,na,ve,bo,te,en,hn,hs⟩:=x;dsimp only at hl⊢;cases en with
 |false=>go_enter func48,ntmps48;go_wp2;go_ret;exact⟨rfl,Am _ _⟩
 |true=>go_enter func48,ntmps48;go_wp2;go_ret;refine⟨Ay ?_,Am _ _⟩;simp[CW]
theorem Sr (x:Ob)(ad:OA)(cap:Nat)(w:World)(hl:(x.hn:Int)<=140737488355328):Calls prog 77 #[.agg (vO x ad cap)] w λe w'=>e=.returned (.bool (NA x))/\Below w.1.size w w':=by obtain⟨ki,na,ve,bo,te,en,hn,hs⟩:=x;dsimp only at hl⊢;cases en with
 |false=>go_enter func77,ntmps77;go_wp2;go_ret;exact⟨rfl,Am _ _⟩
 |true=>
  rcases Bm hn with rfl|hp;.go_enter func77,ntmps77;go_wp2;go_ret;exact⟨Ay (by simp[NA]),Am _ _⟩
  .have he:((hn:Int)==0)=false:=Zd;have HE:=Ah (show NA ⟨ki,na,ve,bo,te,true,hn,hs⟩=false by simp[NA];omega);go_enter func77,ntmps77;go_wp2;go_ret;exact⟨Ay HE.symm,Am _ _⟩
def Fs (x z:Ob):Int:=if KW x.kind z.kind then-1 else if x.kind.toList=z.kind.toList then(if KW x.name z.name then-1 else if x.name.toList=z.name.toList then 0 else 1)else 1
def Fd (x z:Ob):Bool:=if x.kind.toList=z.kind.toList then KW x.name z.name else KW x.kind z.kind
theorem RY{P:Prop}(h:P:=by go_enter func62,ntmps62;go_wp2;go_ret;exact⟨MF HE.symm,HB _ _⟩):P:=h
theorem NZ (x z:Ob)(ad ad2:OA)(cap cap2:Nat)(w:World):Calls prog 62 #[.agg (vO x ad cap),.agg (vO z ad2 cap2)] w λe w'=>e=.returned (.i (Fs x z))/\Below w.1.size w w':=by have hB:∀o1 o2:Obj,Below w.1.size w ((w.alloc o1).alloc o2):=λo1 o2=>(Am _ _).alloc Zc _;have HB:=Ah hB;clear hB;cases h1:KW x.kind z.kind with
 |true=>have HE:=Ah (show Fs x z=-1 by unfold Fs;rw[h1];rfl);have h1':Op.bytesLess x.kind.toList z.kind.toList=true:=h1;clear h1;exact RY
 |false=>
  have h1':Op.bytesLess x.kind.toList z.kind.toList=false:=h1;by_cases h2:x.kind.toList=z.kind.toList
  .have h2':(x.kind.toList==z.kind.toList)=true:=by simp[h2]
   cases h3:KW x.name z.name with
   |true=>have HE:=Ah (show Fs x z=-1 by unfold Fs;rw[h1,if_pos h2,h3];rfl);have h3':Op.bytesLess x.name.toList z.name.toList=true:=h3;clear h1 h2 h3;exact RY
   |false=>
    have h3':Op.bytesLess x.name.toList z.name.toList=false:=h3;by_cases h4:x.name.toList=z.name.toList
    .have HE:=Ah (show Fs x z=0 by unfold Fs;rw[h1,if_pos h2,h3,if_pos h4];rfl);have h4':(x.name.toList==z.name.toList)=true:=by simp[h4]
     clear h1 h2 h3 h4;exact RY
    .have HE:=Ah (show Fs x z=1 by unfold Fs;rw[h1,if_pos h2,h3,if_neg h4];rfl);have h4':(x.name.toList==z.name.toList)=false:=by simp[h4]
     clear h1 h2 h3 h4;exact RY
  .have HE:=Ah (show Fs x z=1 by unfold Fs;rw[h1,if_neg h2];rfl);have h2':(x.kind.toList==z.kind.toList)=false:=by simp[h2]
   clear h1 h2;exact RY
end Go.Proofs.Ytnnjcenacidceaa
