import Derived.Test.YtdknjmgdgnmhjaaGreatAp
import Derived.Test.YtdknjmgdgnmhjaaGreatRows
import Derived.WalkKit
import Derived.WalkSpells
import Derived.WalkLawsBesides
import Derived.Laws.IdiomStrings
import Derived.Deep.RegionWith
import Derived.Deep.QuietTactic
import Derived.BigQuiet
import Derived.Deep.Light
set_option maxRecDepth 100000
set_option maxHeartbeats 1000000
namespace Go.Proofs.YtdknjmgdgnmhjaaGreat
open Go.RowKit Go.Proofs.Tryz
variable {p:Addr}{w w' a W:World}{n lo hi B:Nat}{ad:OA}{f:Nat→Addr}{v0 v1 v2 v3 v4 v5 v6:Value}{s:ByteArray}
theorem Ab{p:Prop}(h:p):Hid p:=h
def AK (w:World) (lo hi:Nat) (ad:OA) (n:Nat) (s:Nat->ByteArray):Prop:=∀i,i<n->∃b off,ad=some ⟨b,off,none⟩/\lo<=b/\b<hi/\w.cell? ⟨b,off+i,none⟩=some (.s (s i))
def BA (w:World) (lo hi:Nat) (ad:OA) (n:Nat) (s:Nat->ByteArray):Prop:=∀i,i<n->∃b off,ad=some ⟨b,off,none⟩/\lo<=b/\b<hi/\w.cell? ⟨b,off+i,none⟩=some (.s (s i))/\w.frozen? ⟨b,off+i,none⟩=false
def Kw (w:World) (n:Nat) (ad:OA) (cap:Nat):Prop:=n<=cap/\((ad=none/\n=0/\cap=0)\/∃b off,ad=some ⟨b,off,none⟩/\b<w.1.size)
theorem Kw.grow{cap:Nat}(h:Kw w n ad cap) (hz:w.1.size<=w'.1.size):Kw w' n ad cap:=⟨h.1,h.2.imp id (λ⟨b,off,e1,e2⟩=>⟨b,off,e1,Aa e2 hz⟩)⟩
theorem Gh:(prog.info? 9).map (λi=>(i.zero,i.size,i.bytes))=some (some (.s ByteArray.empty),1,16):=Zc
theorem Kj{k:IntKind}{a b:Int}(h:a=b):Ending.returned (.int k a)=.returned (.int k b):=by rw[h]
theorem Oo (h:∀i,W.cell? (f i)=(#[v0,v1,v2,v3,v4]:Array Value)[i]?):W.cell? (f 0)=some v0/\W.cell? (f 1)=some v1/\W.cell? (f 2)=some v2/\W.cell? (f 3)=some v3/\W.cell? (f 4)=some v4:=⟨h 0,h 1,h 2,h 3,h 4⟩
theorem SB (h:∀i,W.cell? (f i)=(#[v0,v1,v2,v3,v4,v5]:Array Value)[i]?):W.cell? (f 0)=some v0/\W.cell? (f 1)=some v1/\W.cell? (f 2)=some v2/\W.cell? (f 3)=some v3/\W.cell? (f 4)=some v4/\W.cell? (f 5)=some v5:=⟨h 0,h 1,h 2,h 3,h 4,h 5⟩
theorem je (h:∀i,W.cell? (f i)=(#[v0,v1,v2,v3,v4,v5,v6]:Array Value)[i]?):W.cell? (f 0)=some v0/\W.cell? (f 1)=some v1/\W.cell? (f 2)=some v2/\W.cell? (f 3)=some v3/\W.cell? (f 4)=some v4/\W.cell? (f 5)=some v5/\W.cell? (f 6)=some v6:=⟨h 0,h 1,h 2,h 3,h 4,h 5,h 6⟩
theorem WN{v7 v8:Value}(h:∀i,W.cell? (f i)=(#[v0,v1,v2,v3,v4,v5,v6,v7,v8]:Array Value)[i]?):W.cell? (f 0)=some v0/\W.cell? (f 1)=some v1/\W.cell? (f 2)=some v2/\W.cell? (f 3)=some v3/\W.cell? (f 4)=some v4/\W.cell? (f 5)=some v5/\W.cell? (f 6)=some v6/\W.cell? (f 7)=some v7/\W.cell? (f 8)=some v8:=⟨h 0,h 1,h 2,h 3,h 4,h 5,h 6,h 7,h 8⟩
theorem CS4 (i:Nat) (h:i<4):i=0\/i=1\/i=2\/i=3:=Za
theorem VU (i:Nat) (h:i<5):i=0\/i=1\/i=2\/i=3\/i=4:=Za
theorem ae (i:Nat) (h:i<6):i=0\/i=1\/i=2\/i=3\/i=4\/i=5:=Za
theorem YP (i:Nat) (h:i<7):i=0\/i=1\/i=2\/i=3\/i=4\/i=5\/i=6:=Za
theorem jh (i:Nat) (h:i<8):i=0\/i=1\/i=2\/i=3\/i=4\/i=5\/i=6\/i=7:=Za
theorem D_ (i:Nat) (h:i<9):i=0\/i=1\/i=2\/i=3\/i=4\/i=5\/i=6\/i=7\/i=8:=Za
theorem Va (i:Nat) (h:i<10):i=0\/i=1\/i=2\/i=3\/i=4\/i=5\/i=6\/i=7\/i=8\/i=9:=Za
theorem Acy (i:Nat) (h:i<11):i=0\/i=1\/i=2\/i=3\/i=4\/i=5\/i=6\/i=7\/i=8\/i=9\/i=10:=Za
theorem ZV (i:Nat) (h:i<12):i=0\/i=1\/i=2\/i=3\/i=4\/i=5\/i=6\/i=7\/i=8\/i=9\/i=10\/i=11:=Za
theorem Aff (i:Nat) (h:i<13):i=0\/i=1\/i=2\/i=3\/i=4\/i=5\/i=6\/i=7\/i=8\/i=9\/i=10\/i=11\/i=12:=Za
theorem Aiq (i:Nat) (h:i<14):i=0\/i=1\/i=2\/i=3\/i=4\/i=5\/i=6\/i=7\/i=8\/i=9\/i=10\/i=11\/i=12\/i=13:=Za
theorem dk (i:Nat) (h:i<15):i=0\/i=1\/i=2\/i=3\/i=4\/i=5\/i=6\/i=7\/i=8\/i=9\/i=10\/i=11\/i=12\/i=13\/i=14:=Za
theorem Afm (i:Nat) (h:i<16):i=0\/i=1\/i=2\/i=3\/i=4\/i=5\/i=6\/i=7\/i=8\/i=9\/i=10\/i=11\/i=12\/i=13\/i=14\/i=15:=Za
theorem Ac7 (i:Nat) (h:i<17):i=0\/i=1\/i=2\/i=3\/i=4\/i=5\/i=6\/i=7\/i=8\/i=9\/i=10\/i=11\/i=12\/i=13\/i=14\/i=15\/i=16:=Za
theorem Ain (i:Nat) (h:i<18):i=0\/i=1\/i=2\/i=3\/i=4\/i=5\/i=6\/i=7\/i=8\/i=9\/i=10\/i=11\/i=12\/i=13\/i=14\/i=15\/i=16\/i=17:=Za
theorem Ait (i:Nat) (h:i<20):i=0\/i=1\/i=2\/i=3\/i=4\/i=5\/i=6\/i=7\/i=8\/i=9\/i=10\/i=11\/i=12\/i=13\/i=14\/i=15\/i=16\/i=17\/i=18\/i=19:=Za
structure Fr (lo hi:Nat) (w w':World):Prop where
 os:w'.os=w.os
 tape:w'.tape=w.tape
 output:w'.output=w.output
 size:w.1.size<=w'.1.size
 block:∀k,k<w.1.size->(k<lo\/hi<=k)->w'.heap[k]?=w.heap[k]?
theorem Fr.refl (lo hi:Nat) (w:World):Fr lo hi w w:=⟨rfl,rfl,rfl,AG _,λ_ _ _=>rfl⟩
theorem Fr.trans{b c:World}(h:Fr lo hi a b) (k:Fr lo hi b c):Fr lo hi a c:=⟨k.os.trans h.os,k.tape.trans h.tape,k.output.trans h.output,AJ h.size k.size,λi hi ho=>(k.block i (Aa hi h.size) ho).trans (h.block i hi ho)⟩
theorem PQ (h:Below w.1.size w w'):Fr lo hi w w':=⟨h.os,h.tape,h.output,h.size,λi hi _=>h.block i hi⟩
theorem Fr.setCell (h:Fr lo hi a w) (h1:lo<=p.block) (h2:p.block<hi) (u:Value):Fr lo hi a (w.setCell p u):=h.trans ⟨rfl,rfl,rfl,by simp[World.setCell],λk _ ho=>Below.heap_setCell _ _ _ _ Za⟩
theorem Fr.cell (h:Fr lo hi w w') (hp:p.block<w.1.size) (ho:p.block<lo\/hi<=p.block):w'.cell? p=w.cell? p:=World.cell?_of_block (w:=w) (h.block p.block hp ho)
theorem Fr.frozen (h:Fr lo hi w w') (hp:p.block<w.1.size) (ho:p.block<lo\/hi<=p.block):w'.frozen? p=w.frozen? p:=World.frozen?_of_block (w:=w) (h.block p.block hp ho)
theorem Fr.below (h:Fr lo hi w w') (hB:B<=lo) (hs:B<=w.1.size):Below B w w':=⟨h.os,h.tape,h.output,h.size,λk hk=>h.block k Za (AA Za)⟩
theorem AK.below{s:Nat->ByteArray}(h:AK w lo hi ad n s) (hb:Below B w w') (hB:hi<=B):AK w' lo hi ad n s:=λi hi'=>by obtain⟨b,off,e1,e2,e3,e4⟩:=h i hi';exact⟨b,off,e1,e2,e3,(hb.cell (p:=⟨b,off+i,none⟩) (Aa e3 hB)).trans e4⟩
theorem AK.alloc{s:Nat->ByteArray}(h:AK w lo hi ad n s) (hB:hi<=w.1.size) (o:Obj):AK (w.alloc o) lo hi ad n s:=h.below ((Ap w.1.size w).alloc A9 o) hB
structure Ob where
 k:ByteArray
 n:ByteArray
 t:Int
 b:Int
 m:ByteArray
 e:Bool
 hn:Nat
 hs:Nat->ByteArray
abbrev vO (x:Ob) (A:OA) (C:Nat):Array Value:=#[.s x.k,.s x.n,.i x.t,.i x.b,.s x.m,.bool x.e,.l A x.hn C]
abbrev Qz (x:Ob) (A:OA) (C:Nat):List Value:=[.s x.k,.s x.n,.i x.t,.i x.b,.s x.m,.bool x.e,.l A x.hn C]
def G6 (n lo hi:Int):Bool:=decide (lo<=n)&&decide (n<=hi)
theorem H7{n lo hi:Int}(h:lo<=n/\n<=hi):G6 n lo hi=true:=by simp[G6,h.1,h.2]
theorem OS{n lo hi:Int}(h:n<lo\/hi<n):G6 n lo hi=false:=by rcases h with h|h<;>simp[G6]<;>omega
theorem Lo{n lo hi:Int}(h:G6 n lo hi=true):lo<=n/\n<=hi:=by simpa[G6]using h
theorem A7{a b:Bool}(h:a=b):Ending.returned (.bool a)=.returned (.bool b):=by rw[h]
def Bj (p:Nat->Bool):Nat->Bool|0=>true|k+1=>Bj p k&&p k
theorem AS{p:Nat->Bool}:∀{n:Nat},Bj p n=true↔∀i,i<n->p i=true
 |0=>⟨λ_ i h=>absurd h (Ae _),λ_=>rfl⟩
 |n+1=>by simp only[Bj,As,AS (n:=n)];exact⟨λh i hi=>by
    rcases AD i n with h1|h1;.exact h.1 i h1
    .have:i=n:=Za;subst this;exact h.2,λh=>⟨λi hi=>h i Za,h n Za⟩⟩
theorem Bd{p:Nat->Bool}{i:Nat}(hi:i<n) (h:p i=false):Bj p n=false:=by cases hc:Bj p n with
 |false=>rfl
 |true=>rw[AS.1 hc i hi]at h;cases h
def iF (c:UInt8):Bool:=(decide (97<=c.toNat)&&decide (c.toNat<=122))||(decide (48<=c.toNat)&&decide (c.toNat<=57))||c.toNat==45||c.toNat==46
def E3 (s:ByteArray) (i:Nat):UInt8:=if h:i<s.size then s[i]else 0
def Cc (s:ByteArray):Bool:=G6 s.size 1 20&&Bj (λi=>iF (E3 s i)) s.size
theorem Mg (s:ByteArray) (k:Nat) (h:k<s.size):E3 s k=s[k]:=dif_pos h
theorem FK (n lo hi:Int) (w:World):Calls prog 62 #[.i n,.i lo,.i hi] w λe w'=>e=.returned (.bool (G6 n lo hi))/\w'=w:=by
 by_cases h1:lo<=n
 .by_cases h2:n<=hi
  .have e:=H7 ⟨h1,h2⟩;have HE:=Ab e;clear e;go_enter func62,ntmps62;exact Qh
  .have HE:=Ab (OS (n:=n) (lo:=lo) (hi:=hi) (Az Za));go_enter func62,ntmps62;exact Qh
 .have HE:=Ab (OS (n:=n) (lo:=lo) (hi:=hi) (AA Za));go_enter func62,ntmps62;exact Qh
theorem Gd (n lo hi:Int) (w:World):Calls prog 46 #[.i n,.i lo,.i hi] w λe w'=>e=.returned (.bool (G6 n lo hi))/\w'=w:=by
 by_cases h1:lo<=n
 .by_cases h2:n<=hi
  .have e:=H7 ⟨h1,h2⟩;have HE:=Ab e;clear e;go_enter func46,ntmps46;exact Qh
  .have HE:=Ab (OS (n:=n) (lo:=lo) (hi:=hi) (Az Za));go_enter func46,ntmps46;exact Qh
 .have HE:=Ab (OS (n:=n) (lo:=lo) (hi:=hi) (AA Za));go_enter func46,ntmps46;exact Qh
theorem NZ (c:UInt8) (w:World):Calls prog 113 #[.int .u8 (c.toNat:Int)] w λe w'=>e=.returned (.bool (iF c))/\w'=w:=by go_enter func113,ntmps113;go_wp2;all_goals go_ret;refine⟨A7 ?_,rfl⟩;rw[Bool.eq_iff_iff];simp[iF];try omega
def Gt (a b:ByteArray):Bool:=Op.bytesLess a.toList b.toList
theorem L6 (a b:ByteArray) (w:World):Calls prog 115 #[.s a,.s b] w λe w'=>e=.returned (.bool (Gt a b))/\w'=w:=by go_enter func115,ntmps115;go_wp2;go_ret;exact⟨rfl,rfl⟩
theorem OY (h:G6 s.size 1 20=false):Cc s=false:=by unfold Cc;rw[h];rfl
theorem TB{k:Nat}(hk:k<s.size) (h:iF (E3 s k)=false):Cc s=false:=by unfold Cc;rw[Bd hk h];simp
theorem Uf (h:G6 s.size 1 20=true) (h2:∀i,i<s.size->iF (E3 s i)=true):Cc s=true:=by unfold Cc;rw[h,AS.2 h2];rfl
theorem Iw (s:ByteArray) (w:World) (hs:(s.size:Int)<=140737488355328):Calls prog 107 #[.s s] w λe w'=>e=.returned (.bool (Cc s))/\w'=w:=by
 by_cases h1:(s.size:Int)<1;.have HE:=Ab (OY (s:=s) (OS (AA h1)));go_enter func107,ntmps107;exact Qh
 by_cases h2:(20:Int)<s.size;.have HE:=Ab (OY (s:=s) (OS (Az h2)));go_enter func107,ntmps107;exact Qh
 go_enter func107,ntmps107;go_wp2;go_loop[14](λi=>∃k:Nat,k<=s.size/\i=.i k/\∀j,j<k->iF (E3 s j)=true) (λi=>s.size-(intOf i).toNat);case atStart=>exact⟨0,Ar _,rfl,λj hj=>absurd hj (Ae _)⟩
 case round=>
  obtain⟨k,hk,rfl,Bg⟩:=hrel;by_cases B7:k<s.size;.have HB:=Ab (Mg s k B7);have HA:=Ab Bg;clear Bg;cases hc:iF (E3 s k)with
   |false=>
    have HE:=Ab (TB B7 hc);have hc':iF s[k]=false:=by rw[<-HB.out];exact hc
    clear hc;go_wp2_with (go_at_call 113;refine(NZ _ _).mono ?_;rintro e w1 ⟨rfl,rfl⟩);go_ret;exact⟨A7 HE.symm,rfl⟩
   |true=>
    have HE:=Ab hc;have hc':iF s[k]=true:=by rw[<-HB.out];exact hc
    clear hc;go_wp2_with (go_at_call 113;refine(NZ _ _).mono ?_;rintro e w1 ⟨rfl,rfl⟩);go_round;case rel=>exact⟨k+1,Za,by go_num,λj hj=>by
     rcases AD j k with h3|h3;.exact HA j h3
     .have:j=k:=Za;subst this;exact HE⟩
    case measure=>simp[intOf];omega
  .have HE:=Ab (Uf (s:=s) (H7 ⟨Za,Za⟩) (λi hi=>Bg i Za));clear Bg;exact Qh
theorem Dm (s:ByteArray) (w:World) (hs:(s.size:Int)<=140737488355328):Calls prog 80 #[.s s] w λe w'=>e=.returned (.bool (Cc s))/\w'=w:=by cases Cs:G6 s.size 1 20 with
 |false=>have HE:=Ab (OY (s:=s) Cs);go_enter func80,ntmps80;go_wp2_with (go_at_call 62;refine(FK _ _ _ _).mono ?_;rintro e w1 ⟨rfl,rfl⟩);go_ret;exact⟨A7 HE.symm,rfl⟩
 |true=>
  have HI:=Ab Cs;go_enter func80,ntmps80;go_wp2_with (go_at_call 62;refine(FK _ _ _ _).mono ?_;rintro e w1 ⟨rfl,rfl⟩);go_loop[3](λi=>∃k:Nat,k<=s.size/\i=.i k/\∀j,j<k->iF (E3 s j)=true) (λi=>s.size-(intOf i).toNat);case atStart=>exact⟨0,Ar _,rfl,λj hj=>absurd hj (Ae _)⟩
  case round=>
   obtain⟨k,hk,rfl,Bg⟩:=hrel;by_cases B7:k<s.size;.have HB:=Ab (Mg s k B7);have HA:=Ab Bg;clear Bg Cs;go_wp2;all_goals first
     |(go_ret;refine⟨A7 (TB B7 ?_).symm,rfl⟩;rw[HB.out];clear HB HA HI;go_light;simp only[Bool.not_eq_true',decide_eq_false_iff_not,beq_eq_false_iff_ne,ne_eq]at*;simp only[iF,Bool.or_eq_false_iff,Bool.and_eq_false_iff,decide_eq_false_iff_not,beq_eq_false_iff_ne,ne_eq];omega)
     |(
       have h9:iF (E3 s k)=true:=by rw[HB.out];clear HB HA HI;go_light;simp only[Bool.not_eq_false',decide_eq_true_eq,beq_iff_eq]at*;simp only[iF,Jo,As,decide_eq_true_eq,beq_iff_eq];omega
       go_round;case rel=>exact⟨k+1,Za,by go_num,λj hj=>by
        rcases AD j k with h3|h3;.exact HA j h3
        .have:j=k:=Za;subst this;exact h9⟩
       case measure=>simp[intOf];omega)
   .have HE:=Ab (Uf (s:=s) HI (λi hi=>Bg i Za));clear Bg Cs;exact Qh
def S3 (n:Nat) (s:Nat->ByteArray):Bool:=Bj (λi=>Cc (s i)&&(i==0||Gt (s (i-1)) (s i))) n
theorem Ry{wr:World}{q nq:Nat}(h:wr=w.drewN q):∃q',wr.drewN nq=w.drewN q':=⟨q+nq,by rw[h];simp⟩
theorem oe (n:Nat) (s:Nat->ByteArray) (ad:OA) (cap:Nat) (w:World) (lo hi:Nat) (hl:(n:Int)<=140737488355328) (hm:∀i,i<n->((s i).size:Int)<=140737488355328) (hc:AK w lo hi ad n s):Calls prog 105 #[.l ad n cap] w λe w'=>e=.returned (.bool (S3 n s))/\∃q,w'=w.drewN q:=by
 go_enter func105,ntmps105;go_wp2;go_loopw[3](λi wr=>∃k:Nat,k<=n/\i=.i k/\(∀j,j<k->(Cc (s j)&&(j==0||Gt (s (j-1)) (s j)))=true)/\∃q,wr=w.drewN q) (λi _=>n-(intOf i).toNat);case atStart=>exact⟨0,Ar _,rfl,λj hj=>absurd hj (Ae _),0,rfl⟩
 case round=>
  obtain⟨k,hk,rfl,Bg,q,hq⟩:=hrel;have HQ:=Ab hq;by_cases B7:k<n
  .obtain⟨b,off,rfl,Gc,Ja,qT⟩:=hc k B7;have Dh:wr.cell? ⟨b,off+k,none⟩=some (.s (s k)):=by rw[hq];exact qT
   have Dg:=hm k B7;have HA:=Ab Bg;clear Bg qT;cases hn:Cc (s k)with
   |false=>have HE:=Ab (Bd (p:=λi=>Cc (s i)&&(i==0||Gt (s (i-1)) (s i))) B7 (by rw[hn];rfl));clear hc hm hq;exact A_
   |true=>
    rcases Bi k with rfl|YT
    .clear hc hm hq;have HN:=Ab (show(Cc (s 0)&&((0:Nat)==0||Gt (s (0-1)) (s 0)))=true by rw[hn];rfl);simp only[BU]at Dh;go_wp2;go_quiet((go_at_call 80;go_must(exact Jf (Dm _ _ Dg))));go_wp2;go_roundw;case rel=>exact⟨1,Za,by go_num,λj hj=>(by have:j=0:=Za;subst this;exact HN),Ry HQ⟩
     case measure=>simp[intOf];omega
    .obtain⟨m,rfl⟩:∃m,k=m+1:=⟨k-1,Za⟩;obtain⟨b',off',e,_,_,rV⟩:=hc m Za;cases e;have cB:wr.cell? ⟨b,off+m,none⟩=some (.s (s m)):=by rw[hq];exact rV
     have hg:decide ((0:Int)<((m+1:Nat):Int))=true:=decide_eq_true Za;clear hc hm hq rV;cases hlt:Gt (s m) (s (m+1))with
     |false=>have HE:=Ab (Bd (p:=λi=>Cc (s i)&&(i==0||Gt (s (i-1)) (s i))) B7 (by rw[hn];simp[hlt]));have MV:Op.bytesLess (s m).toList (s (m+1)).toList=false:=hlt;clear hlt;exact A_
     |true=>
      have HN:=Ab (show(Cc (s (m+1))&&(m+1==0||Gt (s (m+1-1)) (s (m+1))))=true by rw[hn];simp[hlt]);have MV:Op.bytesLess (s m).toList (s (m+1)).toList=true:=hlt;clear hlt;go_wp2;go_quiet((go_at_call 80;go_must(exact Jf (Dm _ _ Dg))));go_wp2;go_roundw;case rel=>exact⟨m+2,Za,by go_num,λj hj=>(by
       rcases AD j (m+1)with h3|h3;.exact HA j h3
       .have:j=m+1:=Za;subst this;exact HN),Ry HQ⟩
      case measure=>simp[intOf];omega
  .have HE:=Ab (AS.2 (λi hi=>Bg i Za));have:k=n:=Za;subst this;clear Bg hc hm hq;go_wp2;go_ret;exact⟨A7 HE.symm,q,HQ⟩
theorem AC (w:World) (o:Obj):Below w.1.size w (w.alloc o):=(Ap _ _).alloc A9 o
def iZ (n:Nat) (s:Nat->ByteArray):Bool:=Bj (λi=>i==0||Gt (s (i-1)) (s i)) n
theorem Lq (n:Nat) (s:Nat->ByteArray):S3 n s=(iZ n s&&Bj (λi=>Cc (s i)) n):=by
 rw[Bool.eq_iff_iff,As];unfold S3 iZ;rw[AS,AS,AS];constructor;.intro h;exact⟨λi hi=>by have:=h i hi;simp only[As]at this;exact this.2,λi hi=>by have:=h i hi;simp only[As]at this;exact this.1⟩
 .intro h i hi;rw[As];exact⟨h.2 i hi,h.1 i hi⟩
theorem XD (n:Nat) (s:Nat->ByteArray) (ad:OA) (cap:Nat) (w:World) (lo hi:Nat) (hl:(n:Int)<=140737488355328) (hc:AK w lo hi ad n s):Calls prog 114 #[.l ad n cap,.func (.func 115) #[] #[]] w λe w'=>e=.returned (.bool (iZ n s))/\∃q,w'=w.drewN q:=by
 go_enter func114,ntmps114;go_wp2;go_loopw[5](λi wr=>∃k:Nat,1<=k/\(k<=n\/k=1)/\i=.i k/\(∀j,j<k->(j==0||Gt (s (j-1)) (s j))=true)/\∃q,wr=w.drewN q) (λi _=>n-(intOf i).toNat);case atStart=>exact⟨1,AG _,Az rfl,rfl,λj hj=>(by have:j=0:=Za;subst this;rfl),0,rfl⟩
 case round=>
  obtain⟨k,pH,hk,rfl,Bg,q,hq⟩:=hrel;have HQ:=Ab hq;by_cases B7:k<n
  .obtain⟨m,rfl⟩:∃m,k=m+1:=⟨k-1,Za⟩;obtain⟨b,off,rfl,Gc,Ja,qT⟩:=hc (m+1) B7;obtain⟨b',off',e,_,_,rV⟩:=hc m Za;cases e;have Dh:wr.cell? ⟨b,off+(m+1),none⟩=some (.s (s (m+1))):=by rw[hq];exact qT
   have cB:wr.cell? ⟨b,off+m,none⟩=some (.s (s m)):=by rw[hq];exact rV
   have HA:=Ab Bg;have tt:(m:Int)+1<=n:=Za;clear Bg qT rV hc hq hk;cases hlt:Gt (s m) (s (m+1))with
   |false=>have HE:=Ab (Bd (p:=λi=>i==0||Gt (s (i-1)) (s i)) B7 (by simp[hlt]));go_wp2;go_quiet((go_at_call 115;go_must(exact Jf (L6 _ _ _))));go_wp2;go_ret;exact⟨A7 HE.symm,Ry HQ⟩
   |true=>
    have HN:=Ab (show(m+1==0||Gt (s (m+1-1)) (s (m+1)))=true by simp[hlt]);go_wp2;go_quiet((go_at_call 115;go_must(exact Jf (L6 _ _ _))));go_wp2;go_roundw;case rel=>exact⟨m+2,Za,AA Za,by go_num,λj hj=>(by
     rcases AD j (m+1)with h3|h3;.exact HA j h3
     .have:j=m+1:=Za;subst this;exact HN),Ry HQ⟩
    case measure=>simp[intOf];omega
  .have HE:=Ab (AS.2 (λi hi=>Bg i Za):iZ n s=true);clear Bg hc hq hk;go_wp2;go_ret;exact⟨A7 HE.symm,q,HQ⟩
def D7 (n:Nat) (s:Nat->ByteArray):Bool:=decide (n<=5)&&S3 n s
theorem UE (n:Nat) (s:Nat->ByteArray) (ad:OA) (cap:Nat) (w:World) (lo hi:Nat) (hl:(n:Int)<=140737488355328) (hm:∀i,i<n->((s i).size:Int)<=140737488355328) (hc:AK w lo hi ad n s):Calls prog 108 #[.l ad n cap] w λe w'=>e=.returned (.bool (D7 n s))/\∃q,w'=w.drewN q:=by
 by_cases h5:(5:Int)<n;.have HE:=Ab (show D7 n s=false by unfold D7;rw[decide_eq_false Za];rfl);go_enter func108,ntmps108;go_wp2;go_ret;exact⟨A7 HE.symm,0,rfl⟩
 cases ha:iZ n s with
 |false=>have HE:=Ab (show D7 n s=false by unfold D7;rw[Lq,ha];simp);go_enter func108,ntmps108;go_wp2_with (go_at_call 114;refine(XD n s ad cap _ lo hi hl hc).mono ?_;rintro e w1 ⟨rfl,q,rfl⟩);go_ret;exact⟨A7 HE.symm,_,rfl⟩
 |true=>
  have HAS:=Ab ha;go_enter func108,ntmps108;go_wp2_with (go_at_call 114;refine(XD n s ad cap _ lo hi hl hc).mono ?_;rintro e w1 ⟨rfl,q0,rfl⟩);go_loop[15](λi=>∃k:Nat,k<=n/\i=.i k/\∀j,j<k->Cc (s j)=true) (λi=>n-(intOf i).toNat);case atStart=>exact⟨0,Ar _,rfl,λj hj=>absurd hj (Ae _)⟩
  case round=>
   obtain⟨k,hk,rfl,Bg⟩:=hrel;by_cases B7:k<n;.obtain⟨b,off,rfl,Gc,Ja,Dh⟩:=hc k B7;have Dg:=hm k B7;have HA:=Ab Bg;clear Bg hc hm ha;cases hn:Cc (s k)with
    |false=>have HE:=Ab (show D7 n s=false by unfold D7;rw[Lq,Bd (p:=λi=>Cc (s i)) B7 hn];simp);go_wp2_with (go_at_call 107;refine(Iw _ _ Dg).mono ?_;rintro e w1 ⟨rfl,rfl⟩);go_ret;exact⟨A7 HE.symm,_,rfl⟩
    |true=>
     have HN:=Ab hn;go_wp2_with (go_at_call 107;refine(Iw _ _ Dg).mono ?_;rintro e w1 ⟨rfl,rfl⟩);go_round;case rel=>exact⟨k+1,Za,by go_num,λj hj=>(by
      rcases AD j k with h3|h3;.exact HA j h3
      .have:j=k:=Za;subst this;exact HN)⟩
     case measure=>simp[intOf];omega
   .have HE:=Ab (show D7 n s=true by unfold D7;rw[Lq,HAS.out,decide_eq_true (show n<=5 by omega),AS.2 (λi hi=>Bg i Za)];rfl);clear Bg hc hm ha;go_wp2;go_ret;exact⟨A7 HE.symm,_,rfl⟩
def Dp (x:Ob):Bool:=!x.e||decide (0<x.hn)
def L2 (x:Ob):Bool:=x.e&&(decide (x.hn=0)&&decide (x.b<x.t))
theorem NC (x:Ob) (ad:OA) (cap:Nat) (w:World) (hl:(x.hn:Int)<=140737488355328):Calls prog 93 #[.agg (vO x ad cap)] w λe w'=>e=.returned (.bool (Dp x))/\Below w.1.size w w':=by obtain⟨ki,na,ve,bo,te,en,hn,hs⟩:=x;dsimp only at hl⊢;cases en with
 |false=>go_enter func93,ntmps93;exact dF
 |true=>go_enter func93,ntmps93;go_wp2;go_ret;refine⟨A7 ?_,AC _ _⟩;simp[Dp]
theorem SW (x:Ob) (ad:OA) (cap:Nat) (w:World) (hl:(x.hn:Int)<=140737488355328):Calls prog 109 #[.agg (vO x ad cap)] w λe w'=>e=.returned (.bool (L2 x))/\Below w.1.size w w':=by obtain⟨ki,na,ve,bo,te,en,hn,hs⟩:=x;dsimp only at hl⊢;cases en with
 |false=>go_enter func109,ntmps109;exact dF
 |true=>
  rcases Bi hn with rfl|hp;.go_enter func109,ntmps109;go_wp2;go_ret;exact⟨A7 (by simp[L2]),AC _ _⟩
  .have he:((hn:Int)==0)=false:=Zd;have HE:=Ab (show L2 ⟨ki,na,ve,bo,te,true,hn,hs⟩=false by simp[L2];omega);go_enter func109,ntmps109;go_wp2;exact Kx
def ET (x z:Ob):Int:=if Gt x.k z.k then-1 else if x.k.toList=z.k.toList then(if Gt x.n z.n then-1 else if x.n.toList=z.n.toList then 0 else 1)else 1
def DY (x z:Ob):Bool:=if x.k.toList=z.k.toList then Gt x.n z.n else Gt x.k z.k
theorem Mo (x z:Ob) (ad CY:OA) (cap cap2:Nat) (w:World):Calls prog 42 #[.agg (vO x ad cap),.agg (vO z CY cap2)] w λe w'=>e=.returned (.i (ET x z))/\Below w.1.size w w':=by have hB:∀o1 o2:Obj,Below w.1.size w ((w.alloc o1).alloc o2):=λo1 o2=>(AC _ _).alloc Ze _;have HB:=Ab hB;clear hB;cases h1:Gt x.k z.k with
 |true=>have HE:=Ab (show ET x z=-1 by unfold ET;rw[h1];rfl);have gt:Op.bytesLess x.k.toList z.k.toList=true:=h1;clear h1;exact Xy
 |false=>
  have gt:Op.bytesLess x.k.toList z.k.toList=false:=h1;by_cases h2:x.k.toList=z.k.toList
  .have h2':(x.k.toList==z.k.toList)=true:=by simp[h2]
   cases h3:Gt x.n z.n with
   |true=>have HE:=Ab (show ET x z=-1 by unfold ET;rw[h1,if_pos h2,h3];rfl);have h3':Op.bytesLess x.n.toList z.n.toList=true:=h3;clear h1 h2 h3;exact Xy
   |false=>
    have h3':Op.bytesLess x.n.toList z.n.toList=false:=h3;by_cases h4:x.n.toList=z.n.toList
    .have HE:=Ab (show ET x z=0 by unfold ET;rw[h1,if_pos h2,h3,if_pos h4];rfl);have h4':(x.n.toList==z.n.toList)=true:=by simp[h4]
     clear h1 h2 h3 h4;exact Xy
    .have HE:=Ab (show ET x z=1 by unfold ET;rw[h1,if_pos h2,h3,if_neg h4];rfl);have h4':(x.n.toList==z.n.toList)=false:=by simp[h4]
     clear h1 h2 h3 h4;exact Xy
  .have HE:=Ab (show ET x z=1 by unfold ET;rw[h1,if_neg h2];rfl);have h2':(x.k.toList==z.k.toList)=false:=by simp[h2]
   clear h1 h2;exact Xy
end Go.Proofs.YtdknjmgdgnmhjaaGreat
