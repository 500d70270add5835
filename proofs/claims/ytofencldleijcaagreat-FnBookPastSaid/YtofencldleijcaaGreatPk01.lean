import Derived.Test.YtofencldleijcaaGreatAp
import Derived.Test.YtofencldleijcaaGreatRows
import Derived.WalkKit
import Derived.WalkSpells
import Derived.WalkLawsBesides
import Derived.Laws.IdiomStrings
import Derived.Deep.RegionWith
import Derived.Deep.QuietTactic
import Derived.BigQuiet
import Derived.Deep.Light
set_option maxRecDepth 100000
set_option maxHeartbeats 1000000
namespace Go.Proofs.YtofencldleijcaaGreat
open Go.RowKit Go.Proofs.Tryz
theorem Ag{p:Prop}(h:p):Hid p:=h
def Ax (w:World)(lo hi:Nat)(ad:OA)(n:Nat)(s:Nat->ByteArray):Prop:=∀i,i<n->∃b off,ad=some ⟨b,off,none⟩/\lo<=b/\b<hi/\w.cell? ⟨b,off+i,none⟩=some (.s (s i))
def Bd (w:World)(lo hi:Nat)(ad:OA)(n:Nat)(s:Nat->ByteArray):Prop:=∀i,i<n->∃b off,ad=some ⟨b,off,none⟩/\lo<=b/\b<hi/\w.cell? ⟨b,off+i,none⟩=some (.s (s i))/\w.frozen? ⟨b,off+i,none⟩=false
def E4 (w:World)(n:Nat)(ad:OA)(cap:Nat):Prop:=n<=cap/\((ad=none/\n=0/\cap=0)\/∃b off,ad=some ⟨b,off,none⟩/\b<w.1.size)
theorem E4.grow{w w':World}{n:Nat}{ad:OA}{cap:Nat}(h:E4 w n ad cap)(hz:w.1.size<=w'.1.size):E4 w' n ad cap:=⟨h.1,h.2.imp id (λ⟨b,off,e1,e2⟩=>⟨b,off,e1,Ad e2 hz⟩)⟩
theorem Fp:(prog.info? 9).map (λi=>(i.zero,i.size,i.bytes))=some (some (.s ByteArray.empty),1,16):=Ze
theorem IE{k:IntKind}{a b:Int}(h:a=b):Ending.returned (.int k a)=.returned (.int k b):=by rw[h]
structure Fr (lo hi:Nat)(w w':World):Prop where
 os:w'.os=w.os
 tape:w'.tape=w.tape
 output:w'.output=w.output
 size:w.1.size<=w'.1.size
 block:∀k,k<w.1.size->(k<lo\/hi<=k)->w'.heap[k]?=w.heap[k]?
theorem Fr.refl (lo hi:Nat)(w:World):Fr lo hi w w:=⟨rfl,rfl,rfl,Az _,λ_ _ _=>rfl⟩
theorem Fr.trans{lo hi:Nat}{a b c:World}(h:Fr lo hi a b)(k:Fr lo hi b c):Fr lo hi a c:=⟨k.os.trans h.os,k.tape.trans h.tape,k.output.trans h.output,AG h.size k.size,λi hi ho=>(k.block i (Ad hi h.size) ho).trans (h.block i hi ho)⟩
theorem RL{lo hi:Nat}{w w':World}(h:Below w.1.size w w'):Fr lo hi w w':=⟨h.os,h.tape,h.output,h.size,λi hi _=>h.block i hi⟩
theorem Fr.setCell{lo hi:Nat}{a w:World}(h:Fr lo hi a w){p:Addr}(h1:lo<=p.block)(h2:p.block<hi)(u:Value):Fr lo hi a (w.setCell p u):=h.trans ⟨rfl,rfl,rfl,by simp[World.setCell],λk _ ho=>Below.heap_setCell _ _ _ _ Zb⟩
theorem Fr.cell{lo hi:Nat}{w w':World}(h:Fr lo hi w w'){p:Addr}(hp:p.block<w.1.size)(ho:p.block<lo\/hi<=p.block):w'.cell? p=w.cell? p:=World.cell?_of_block (w:=w) (h.block p.block hp ho)
theorem Fr.frozen{lo hi:Nat}{w w':World}(h:Fr lo hi w w'){p:Addr}(hp:p.block<w.1.size)(ho:p.block<lo\/hi<=p.block):w'.frozen? p=w.frozen? p:=World.frozen?_of_block (w:=w) (h.block p.block hp ho)
theorem Fr.below{lo hi:Nat}{w w':World}(h:Fr lo hi w w'){B:Nat}(hB:B<=lo)(hs:B<=w.1.size):Below B w w':=⟨h.os,h.tape,h.output,h.size,λk hk=>h.block k Zb (AO Zb)⟩
theorem Ax.below{w w':World}{B lo hi:Nat}{ad:OA}{n:Nat}{s:Nat->ByteArray}(h:Ax w lo hi ad n s)(hb:Below B w w')(hB:hi<=B):Ax w' lo hi ad n s:=λi hi'=>by obtain⟨b,off,e1,e2,e3,e4⟩:=h i hi';exact⟨b,off,e1,e2,e3,(hb.cell (p:=⟨b,off+i,none⟩) (Ad e3 hB)).trans e4⟩
theorem Ax.alloc{w:World}{lo hi:Nat}{ad:OA}{n:Nat}{s:Nat->ByteArray}(h:Ax w lo hi ad n s)(hB:hi<=w.1.size)(o:Obj):Ax (w.alloc o) lo hi ad n s:=h.below ((Al w.1.size w).alloc Bg o) hB
structure Ob where
 kind:ByteArray
 name:ByteArray
 ver:Int
 born:Int
 text:ByteArray
 ending:Bool
 hn:Nat
 hs:Nat->ByteArray
abbrev vO (x:Ob)(A:OA)(C:Nat):Array Value:=#[.s x.kind,.s x.name,.i x.ver,.i x.born,.s x.text,.bool x.ending,.l A x.hn C]
abbrev iX (x:Ob)(A:OA)(C:Nat):List Value:=[.s x.kind,.s x.name,.i x.ver,.i x.born,.s x.text,.bool x.ending,.l A x.hn C]
def DW (n lo hi:Int):Bool:=decide (lo<=n)&&decide (n<=hi)
theorem Fa{n lo hi:Int}(h:lo<=n/\n<=hi):DW n lo hi=true:=by simp[DW,h.1,h.2]
theorem LB{n lo hi:Int}(h:n<lo\/hi<n):DW n lo hi=false:=by rcases h with h|h<;>simp[DW]<;>omega
theorem IT{n lo hi:Int}(h:DW n lo hi=true):lo<=n/\n<=hi:=by simpa[DW]using h
theorem Av{a b:Bool}(h:a=b):Ending.returned (.bool a)=.returned (.bool b):=by rw[h]
def Be (p:Nat->Bool):Nat->Bool|0=>true|k+1=>Be p k&&p k
theorem AC{p:Nat->Bool}:∀{n:Nat},Be p n=true↔∀i,i<n->p i=true
 |0=>⟨λ_ i h=>absurd h (Ai _),λ_=>rfl⟩
 |n+1=>by simp only[Be,Ak,AC (n:=n)];exact⟨λh i hi=>by
    rcases At i n with h1|h1;.exact h.1 i h1
    .have:i=n:=Zb;subst this;exact h.2,λh=>⟨λi hi=>h i Zb,h n Zb⟩⟩
theorem AV{p:Nat->Bool}{n i:Nat}(hi:i<n)(h:p i=false):Be p n=false:=by cases hc:Be p n with
 |false=>rfl
 |true=>rw[AC.1 hc i hi]at h;cases h
def UG (c:UInt8):Bool:=(decide (97<=c.toNat)&&decide (c.toNat<=122))||(decide (48<=c.toNat)&&decide (c.toNat<=57))||c.toNat==45||c.toNat==46
def Ee (s:ByteArray)(i:Nat):UInt8:=if h:i<s.size then s[i]else 0
def By (s:ByteArray):Bool:=DW s.size 1 20&&Be (λi=>UG (Ee s i)) s.size
theorem Kg (s:ByteArray)(k:Nat)(h:k<s.size):Ee s k=s[k]:=dif_pos h
theorem BY (n lo hi:Int)(w:World):Calls prog 28 #[.i n,.i lo,.i hi] w λe w'=>e=.returned (.bool (DW n lo hi))/\w'=w:=by
 by_cases h1:lo<=n
 .by_cases h2:n<=hi
  .have e:=Fa ⟨h1,h2⟩;have HE:=Ag e;clear e;go_enter func28,ntmps28;go_wp2;go_ret;exact⟨Av HE.symm,rfl⟩
  .have HE:=Ag (LB (n:=n) (lo:=lo) (hi:=hi) (AD Zb));go_enter func28,ntmps28;go_wp2;go_ret;exact⟨Av HE.symm,rfl⟩
 .have HE:=Ag (LB (n:=n) (lo:=lo) (hi:=hi) (AO Zb));go_enter func28,ntmps28;go_wp2;go_ret;exact⟨Av HE.symm,rfl⟩
theorem Fo (n lo hi:Int)(w:World):Calls prog 18 #[.i n,.i lo,.i hi] w λe w'=>e=.returned (.bool (DW n lo hi))/\w'=w:=by
 by_cases h1:lo<=n
 .by_cases h2:n<=hi
  .have e:=Fa ⟨h1,h2⟩;have HE:=Ag e;clear e;go_enter func18,ntmps18;go_wp2;go_ret;exact⟨Av HE.symm,rfl⟩
  .have HE:=Ag (LB (n:=n) (lo:=lo) (hi:=hi) (AD Zb));go_enter func18,ntmps18;go_wp2;go_ret;exact⟨Av HE.symm,rfl⟩
 .have HE:=Ag (LB (n:=n) (lo:=lo) (hi:=hi) (AO Zb));go_enter func18,ntmps18;go_wp2;go_ret;exact⟨Av HE.symm,rfl⟩
theorem Ll (c:UInt8)(w:World):Calls prog 111 #[.int .u8 (c.toNat:Int)] w λe w'=>e=.returned (.bool (UG c))/\w'=w:=by go_enter func111,ntmps111;go_wp2;all_goals go_ret;refine⟨Av ?_,rfl⟩;rw[Bool.eq_iff_iff];simp[UG];try omega
def ER (a b:ByteArray):Bool:=Op.bytesLess a.toList b.toList
theorem JS (a b:ByteArray)(w:World):Calls prog 113 #[.s a,.s b] w λe w'=>e=.returned (.bool (ER a b))/\w'=w:=by go_enter func113,ntmps113;go_wp2;go_ret;exact⟨rfl,rfl⟩
theorem Ly{s:ByteArray}(h:DW s.size 1 20=false):By s=false:=by unfold By;rw[h];rfl
theorem Pb{s:ByteArray}{k:Nat}(hk:k<s.size)(h:UG (Ee s k)=false):By s=false:=by unfold By;rw[AV hk h];simp
theorem Pd{s:ByteArray}(h:DW s.size 1 20=true)(h2:∀i,i<s.size->UG (Ee s i)=true):By s=true:=by unfold By;rw[h,AC.2 h2];rfl
theorem Gc (s:ByteArray)(w:World)(hs:(s.size:Int)<=140737488355328):Calls prog 100 #[.s s] w λe w'=>e=.returned (.bool (By s))/\w'=w:=by
 by_cases h1:(s.size:Int)<1;.have HE:=Ag (Ly (s:=s) (LB (AO h1)));go_enter func100,ntmps100;go_wp2;go_ret;exact⟨Av HE.symm,rfl⟩
 by_cases h2:(20:Int)<s.size;.have HE:=Ag (Ly (s:=s) (LB (AD h2)));go_enter func100,ntmps100;go_wp2;go_ret;exact⟨Av HE.symm,rfl⟩
 go_enter func100,ntmps100;go_wp2;go_loop[14](λi=>∃k:Nat,k<=s.size/\i=.i k/\∀j,j<k->UG (Ee s j)=true)(λi=>s.size-(intOf i).toNat);case atStart=>exact⟨0,Aw _,rfl,λj hj=>absurd hj (Ai _)⟩
 case round=>
  obtain⟨k,hk,rfl,hall⟩:=hrel;by_cases hkn:k<s.size;.have HB:=Ag (Kg s k hkn);have HA:=Ag hall;clear hall;cases hc:UG (Ee s k)with
   |false=>
    have HE:=Ag (Pb hkn hc);have hc':UG s[k]=false:=by rw[<-HB.out];exact hc
    clear hc;go_wp2_with (go_at_call 111;refine(Ll _ _).mono ?_;rintro e w1 ⟨rfl,rfl⟩);go_ret;exact⟨Av HE.symm,rfl⟩
   |true=>
    have HE:=Ag hc;have hc':UG s[k]=true:=by rw[<-HB.out];exact hc
    clear hc;go_wp2_with (go_at_call 111;refine(Ll _ _).mono ?_;rintro e w1 ⟨rfl,rfl⟩);go_round;case rel=>exact⟨k+1,Zb,by go_num,λj hj=>by
     rcases At j k with h3|h3;.exact HA j h3
     .have:j=k:=Zb;subst this;exact HE⟩
    case measure=>simp[intOf];omega
  .have HE:=Ag (Pd (s:=s) (Fa ⟨Zb,Zb⟩) (λi hi=>hall i Zb));clear hall;go_wp2;go_ret;exact⟨Av HE.symm,rfl⟩
theorem AU (s:ByteArray)(w:World)(hs:(s.size:Int)<=140737488355328):Calls prog 64 #[.s s] w λe w'=>e=.returned (.bool (By s))/\w'=w:=by cases hin:DW s.size 1 20 with
 |false=>have HE:=Ag (Ly (s:=s) hin);go_enter func64,ntmps64;go_wp2_with (go_at_call 28;refine(BY _ _ _ _).mono ?_;rintro e w1 ⟨rfl,rfl⟩);go_ret;exact⟨Av HE.symm,rfl⟩
 |true=>
  have HI:=Ag hin;go_enter func64,ntmps64;go_wp2_with (go_at_call 28;refine(BY _ _ _ _).mono ?_;rintro e w1 ⟨rfl,rfl⟩);go_loop[3](λi=>∃k:Nat,k<=s.size/\i=.i k/\∀j,j<k->UG (Ee s j)=true)(λi=>s.size-(intOf i).toNat);case atStart=>exact⟨0,Aw _,rfl,λj hj=>absurd hj (Ai _)⟩
  case round=>
   obtain⟨k,hk,rfl,hall⟩:=hrel;by_cases hkn:k<s.size;.have HB:=Ag (Kg s k hkn);have HA:=Ag hall;clear hall hin;go_wp2;all_goals first
     |(go_ret;refine⟨Av (Pb hkn ?_).symm,rfl⟩;rw[HB.out];clear HB HA HI;go_light;simp only[FY,decide_eq_false_iff_not,beq_eq_false_iff_ne,ne_eq]at*;simp only[UG,Bool.or_eq_false_iff,Jd,decide_eq_false_iff_not,beq_eq_false_iff_ne,ne_eq];omega)
     |(
       have h9:UG (Ee s k)=true:=by rw[HB.out];clear HB HA HI;go_light;simp only[Bool.not_eq_false',decide_eq_true_eq,beq_iff_eq]at*;simp only[UG,Hi,Ak,decide_eq_true_eq,beq_iff_eq];omega
       go_round;case rel=>exact⟨k+1,Zb,by go_num,λj hj=>by
        rcases At j k with h3|h3;.exact HA j h3
        .have:j=k:=Zb;subst this;exact h9⟩
       case measure=>simp[intOf];omega)
   .have HE:=Ag (Pd (s:=s) HI (λi hi=>hall i Zb));clear hall hin;go_wp2;go_ret;exact⟨Av HE.symm,rfl⟩
def OB (n:Nat)(s:Nat->ByteArray):Bool:=Be (λi=>By (s i)&&(i==0||ER (s (i-1)) (s i))) n
theorem Mf{w wr:World}{q nq:Nat}(h:wr=w.drewN q):∃q',wr.drewN nq=w.drewN q':=⟨q+nq,by rw[h];simp⟩
theorem Z2 (n:Nat)(s:Nat->ByteArray)(ad:OA)(cap:Nat)(w:World)(lo hi:Nat)(hl:(n:Int)<=140737488355328)(hm:∀i,i<n->((s i).size:Int)<=140737488355328)(hc:Ax w lo hi ad n s):Calls prog 99 #[.l ad n cap] w λe w'=>e=.returned (.bool (OB n s))/\∃q,w'=w.drewN q:=by
 go_enter func99,ntmps99;go_wp2;go_loopw[3](λi wr=>∃k:Nat,k<=n/\i=.i k/\(∀j,j<k->(By (s j)&&(j==0||ER (s (j-1)) (s j)))=true)/\∃q,wr=w.drewN q)(λi _=>n-(intOf i).toNat);case atStart=>exact⟨0,Aw _,rfl,λj hj=>absurd hj (Ai _),0,rfl⟩
 case round=>
  obtain⟨k,hk,rfl,hall,q,hq⟩:=hrel;have HQ:=Ag hq;by_cases hkn:k<n
  .obtain⟨b,off,rfl,hlo,hbh,hcx0⟩:=hc k hkn;have hcx:wr.cell? ⟨b,off+k,none⟩=some (.s (s k)):=by rw[hq];exact hcx0
   have hmk:=hm k hkn;have HA:=Ag hall;clear hall hcx0;cases hn:By (s k)with
   |false=>have HE:=Ag (AV (p:=λi=>By (s i)&&(i==0||ER (s (i-1)) (s i))) hkn (by rw[hn];rfl));clear hc hm hq;go_wp2;go_quiet((go_at_call 64;go_must(exact E0 (AU _ _ hmk))));go_wp2;go_ret;exact⟨Av HE.symm,Mf HQ⟩
   |true=>
    rcases BF k with rfl|hpos
    .clear hc hm hq;have HN:=Ag (show(By (s 0)&&((0:Nat)==0||ER (s (0-1)) (s 0)))=true by rw[hn];rfl);simp only[Ks]at hcx;go_wp2;go_quiet((go_at_call 64;go_must(exact E0 (AU _ _ hmk))));go_wp2;go_roundw;case rel=>exact⟨1,Zb,by go_num,λj hj=>(by have:j=0:=Zb;subst this;exact HN),Mf HQ⟩
     case measure=>simp[intOf];omega
    .obtain⟨m,rfl⟩:∃m,k=m+1:=⟨k-1,Zb⟩;obtain⟨b',off',e,_,_,hcy0⟩:=hc m Zb;cases e;have hcy:wr.cell? ⟨b,off+m,none⟩=some (.s (s m)):=by rw[hq];exact hcy0
     have hg:decide ((0:Int)<((m+1:Nat):Int))=true:=decide_eq_true Zb;clear hc hm hq hcy0;cases hlt:ER (s m) (s (m+1))with
     |false=>have HE:=Ag (AV (p:=λi=>By (s i)&&(i==0||ER (s (i-1)) (s i))) hkn (by rw[hn];simp[hlt]));have hlt':Op.bytesLess (s m).toList (s (m+1)).toList=false:=hlt;clear hlt;go_wp2;go_quiet((go_at_call 64;go_must(exact E0 (AU _ _ hmk))));go_wp2;go_ret;exact⟨Av HE.symm,Mf HQ⟩
     |true=>
      have HN:=Ag (show(By (s (m+1))&&(m+1==0||ER (s (m+1-1)) (s (m+1))))=true by rw[hn];simp[hlt]);have hlt':Op.bytesLess (s m).toList (s (m+1)).toList=true:=hlt;clear hlt;go_wp2;go_quiet((go_at_call 64;go_must(exact E0 (AU _ _ hmk))));go_wp2;go_roundw;case rel=>exact⟨m+2,Zb,by go_num,λj hj=>(by
       rcases At j (m+1)with h3|h3;.exact HA j h3
       .have:j=m+1:=Zb;subst this;exact HN),Mf HQ⟩
      case measure=>simp[intOf];omega
  .have HE:=Ag (AC.2 (λi hi=>hall i Zb));have:k=n:=Zb;subst this;clear hall hc hm hq;go_wp2;go_ret;exact⟨Av HE.symm,q,HQ⟩
end Go.Proofs.YtofencldleijcaaGreat
