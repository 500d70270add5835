import Derived.Test.YtllmmkchokkaaaaGreatDoorPk01
import Derived.Deep.Light
import Derived.Deep.QuietTactic
import Derived.BigQuiet
set_option maxRecDepth 100000
set_option maxHeartbeats 1000000
namespace Go.Proofs.YtllmmkchokkaaaaGreatDoor
open Go.RowKit
def inB (n lo hi:Int):Bool:=decide (lo≤n)&&decide (n≤hi)
theorem inB_yes {n lo hi:Int} (h:lo≤n∧n≤hi):inB n lo hi=true:=by simp [inB,h.1,h.2]
theorem inB_no {n lo hi:Int} (h:n<lo∨hi<n):inB n lo hi=false:=by
 rcases h with h|h<;>simp [inB]<;>omega
theorem inB_of {n lo hi:Int} (h:inB n lo hi=true):lo≤n∧n≤hi:=by simpa [inB] using h
theorem ret_bool {a b:Bool} (h:a=b):Ending.returned (.bool a)=.returned (.bool b):=by rw [h]
def allTo (p:Nat→Bool):Nat→Bool|0=>true|k+1=>allTo p k&&p k
theorem allTo_iff {p:Nat→Bool} : ∀ {n:Nat},allTo p n=true↔∀ i,i<n→p i=true
 | 0=>⟨fun _ i h=>absurd h (Nat.not_lt_zero _),fun _=>rfl⟩
 | n+1=>by
  simp only [allTo,Bool.and_eq_true,allTo_iff (n:=n)]
  exact ⟨fun h i hi=>by
    rcases Nat.lt_or_ge i n with h1|h1
    ·exact h.1 i h1
    ·have:i=n:=Za
     subst this;exact h.2,fun h=>⟨fun i hi=>h i Za,h n Za⟩⟩
theorem allTo_no {p:Nat→Bool} {n i:Nat} (hi:i<n) (h:p i=false):allTo p n=false:=by
 cases hc:allTo p n with
 | false=>rfl
 | true=>rw [allTo_iff.1 hc i hi] at h;cases h
def nbB (c:UInt8):Bool:=(decide (97≤c.toNat)&&decide (c.toNat≤122))||(decide (48≤c.toNat)&&decide (c.toNat≤57))||c.toNat==45||c.toNat==46
def byteAt (s:ByteArray) (i:Nat):UInt8:=if h:i<s.size then s[i] else 0
def nameB (s:ByteArray):Bool:=inB s.size 1 20&&allTo (fun i=>nbB (byteAt s i)) s.size
theorem byteAt_eq (s:ByteArray) (k:Nat) (h:k<s.size):byteAt s k=s[k]:=dif_pos h
theorem apP042 {P:Prop} (h:P:=by
  go_enter Tryz.func70,Tryz.ntmps70
  go_wp2
  go_ret
  exact ⟨ret_bool HE.out.symm,rfl⟩):P:=h
theorem in_any (n lo hi:Int) (w:World):Calls Tryz.prog 70 #[.int .i64 n,.int .i64 lo,.int .i64 hi] w fun e w'=>e=.returned (.bool (inB n lo hi))∧w'=w:=by
 by_cases h1:lo≤n
 ·by_cases h2:n≤hi
  ·have e:=inB_yes ⟨h1,h2⟩
   have HE:=hid e
   clear e
   exact apP042
  ·have HE:=hid (inB_no (n:=n) (lo:=lo) (hi:=hi) (Or.inr Za))
   exact apP042
 ·have HE:=hid (inB_no (n:=n) (lo:=lo) (hi:=hi) (Or.inl Za))
  exact apP042
theorem apP041 {P:Prop} (h:P:=by
  go_enter Tryz.func118,Tryz.ntmps118
  go_wp2
  go_ret
  exact ⟨ret_bool HE.out.symm,rfl⟩):P:=h
theorem within_any (n lo hi:Int) (w:World):Calls Tryz.prog 118 #[.int .i64 n,.int .i64 lo,.int .i64 hi] w fun e w'=>e=.returned (.bool (inB n lo hi))∧w'=w:=by
 by_cases h1:lo≤n
 ·by_cases h2:n≤hi
  ·have e:=inB_yes ⟨h1,h2⟩
   have HE:=hid e
   clear e
   exact apP041
  ·have HE:=hid (inB_no (n:=n) (lo:=lo) (hi:=hi) (Or.inr Za))
   exact apP041
 ·have HE:=hid (inB_no (n:=n) (lo:=lo) (hi:=hi) (Or.inl Za))
  exact apP041
theorem nameByte_any (c:UInt8) (w:World):Calls Tryz.prog 148 #[.int .u8 (c.toNat:Int)] w fun e w'=>e=.returned (.bool (nbB c))∧w'=w:=by
 go_enter Tryz.func148,Tryz.ntmps148
 go_wp2
 all_goals
  go_ret
  refine ⟨ret_bool ?_,rfl⟩
  rw [Bool.eq_iff_iff]
  simp [nbB]
  try omega
def ltB (a b:ByteArray):Bool:=Op.bytesLess a.toList b.toList
theorem textBefore_any (a b:ByteArray) (w:World):Calls Tryz.prog 200 #[.string a,.string b] w fun e w'=>e=.returned (.bool (ltB a b))∧w'=w:=by
 go_enter Tryz.func200,Tryz.ntmps200
 go_wp2
 go_ret
 exact ⟨rfl,rfl⟩
theorem nameB_no1 {s:ByteArray} (h:inB s.size 1 20=false):nameB s=false:=by unfold nameB;rw [h];rfl
theorem nameB_no2 {s:ByteArray} {k:Nat} (hk:k<s.size) (h:nbB (byteAt s k)=false):nameB s=false:=by unfold nameB;rw [allTo_no hk h];simp
theorem nameB_yes {s:ByteArray} (h:inB s.size 1 20=true) (h2:∀ i,i<s.size→nbB (byteAt s i)=true):nameB s=true:=by unfold nameB;rw [h,allTo_iff.2 h2];rfl
theorem isName_any (s:ByteArray) (w:World) (hs:(s.size:Int)≤140737488355328):Calls Tryz.prog 90 #[.string s] w fun e w'=>e=.returned (.bool (nameB s))∧w'=w:=by
 by_cases h1:(s.size:Int)<1
 ·have HE:=hid (nameB_no1 (s:=s) (inB_no (Or.inl h1)))
  go_enter Tryz.func90,Tryz.ntmps90
  go_wp2
  go_ret
  exact ⟨ret_bool HE.out.symm,rfl⟩
 by_cases h2:(20:Int)<s.size
 ·have HE:=hid (nameB_no1 (s:=s) (inB_no (Or.inr h2)))
  go_enter Tryz.func90,Tryz.ntmps90
  go_wp2
  go_ret
  exact ⟨ret_bool HE.out.symm,rfl⟩
 go_enter Tryz.func90,Tryz.ntmps90
 go_wp2
 go_loop [14] (fun i=>∃ k:Nat,k≤s.size∧i=.int .i64 k∧∀ j,j<k→nbB (byteAt s j)=true) (fun i=>s.size-(intOf i).toNat)
 case atStart=>exact ⟨0,Nat.zero_le _,rfl,fun j hj=>absurd hj (Nat.not_lt_zero _)⟩
 case round=>
  obtain ⟨k,hk,rfl,hall⟩:=hrel
  by_cases hkn:k<s.size
  ·have HB:=hid (byteAt_eq s k hkn)
   have HA:=hid hall
   clear hall
   cases hc:nbB (byteAt s k) with
   | false=>
    have HE:=hid (nameB_no2 hkn hc)
    have hc':nbB s[k]=false:=by rw [←HB.out];exact hc
    clear hc
    go_wp2_with (go_at_call 148;refine (nameByte_any _ _).mono ?_;rintro e w1 ⟨rfl,rfl⟩)
    go_ret
    exact ⟨ret_bool HE.out.symm,rfl⟩
   | true=>
    have HE:=hid hc
    have hc':nbB s[k]=true:=by rw [←HB.out];exact hc
    clear hc
    go_wp2_with (go_at_call 148;refine (nameByte_any _ _).mono ?_;rintro e w1 ⟨rfl,rfl⟩)
    go_round
    case rel=>exact ⟨k+1,Za,by go_num,fun j hj=>by
     rcases Nat.lt_or_ge j k with h3|h3
     ·exact HA.out j h3
     ·have:j=k:=Za
      subst this;exact HE.out⟩
    case measure=>simp [intOf];omega
  ·have HE:=hid (nameB_yes (s:=s) (inB_yes ⟨Za,Za⟩) (fun i hi=>hall i Za))
   clear hall
   go_wp2
   go_ret
   exact ⟨ret_bool HE.out.symm,rfl⟩
theorem nameOk_any (s:ByteArray) (w:World) (hs:(s.size:Int)≤140737488355328):Calls Tryz.prog 110 #[.string s] w fun e w'=>e=.returned (.bool (nameB s))∧w'=w:=by
 cases hin:inB s.size 1 20 with
 | false=>
  have HE:=hid (nameB_no1 (s:=s) hin)
  go_enter Tryz.func110,Tryz.ntmps110
  go_wp2_with (go_at_call 70;refine (in_any _ _ _ _).mono ?_;rintro e w1 ⟨rfl,rfl⟩)
  go_ret
  exact ⟨ret_bool HE.out.symm,rfl⟩
 | true=>
  have HI:=hid hin
  go_enter Tryz.func110,Tryz.ntmps110
  go_wp2_with (go_at_call 70;refine (in_any _ _ _ _).mono ?_;rintro e w1 ⟨rfl,rfl⟩)
  go_loop [3] (fun i=>∃ k:Nat,k≤s.size∧i=.int .i64 k∧∀ j,j<k→nbB (byteAt s j)=true) (fun i=>s.size-(intOf i).toNat)
  case atStart=>exact ⟨0,Nat.zero_le _,rfl,fun j hj=>absurd hj (Nat.not_lt_zero _)⟩
  case round=>
   obtain ⟨k,hk,rfl,hall⟩:=hrel
   by_cases hkn:k<s.size
   ·have HB:=hid (byteAt_eq s k hkn)
    have HA:=hid hall
    clear hall hin
    go_wp2
    all_goals first
     | (
       go_ret
       refine ⟨ret_bool (nameB_no2 hkn ?_).symm,rfl⟩
       rw [HB.out]
       clear HB HA HI
       go_light
       simp only [Bool.not_eq_true',decide_eq_false_iff_not,beq_eq_false_iff_ne,ne_eq] at *
       simp only [nbB,Bool.or_eq_false_iff,Bool.and_eq_false_iff,decide_eq_false_iff_not,beq_eq_false_iff_ne,ne_eq]
       omega)
     | (
       have h9:nbB (byteAt s k)=true:=by
        rw [HB.out]
        clear HB HA HI
        go_light
        simp only [Bool.not_eq_false',decide_eq_true_eq,beq_iff_eq] at *
        simp only [nbB,Bool.or_eq_true,Bool.and_eq_true,decide_eq_true_eq,beq_iff_eq]
        omega
       go_round
       case rel=>exact ⟨k+1,Za,by go_num,fun j hj=>by
        rcases Nat.lt_or_ge j k with h3|h3
        ·exact HA.out j h3
        ·have:j=k:=Za
         subst this;exact h9⟩
       case measure=>simp [intOf];omega)
   ·have HE:=hid (nameB_yes (s:=s) HI.out (fun i hi=>hall i Za))
    clear hall hin
    go_wp2
    go_ret
    exact ⟨ret_bool HE.out.symm,rfl⟩
def ascB (n:Nat) (s:Nat→ByteArray):Bool:=allTo (fun i=>nameB (s i)&&(i==0||ltB (s (i-1)) (s i))) n
theorem drewQ {w wr:World} {q nq:Nat} (h:wr=w.drewN q):∃ q',wr.drewN nq=w.drewN q':=⟨q+nq,by rw [h];simp⟩
theorem apP043 {P:Prop} (h:P:=by
  go_wp2
  go_quiet ((go_at_call 110;go_must (exact Calls.quiet_of_same (nameOk_any _ _ hmk))))
  go_wp2
  go_ret
  exact ⟨ret_bool HE.out.symm,drewQ HQ.out⟩):P:=h
theorem asc_any (n:Nat) (s:Nat→ByteArray) (ad:Option Addr) (cap:Nat) (w:World) (lo hi:Nat) (hl:(n:Int)≤140737488355328) (hm:∀ i,i<n→((s i).size:Int)≤140737488355328) (hc:StrsIn w lo hi ad n s) :
  Calls Tryz.prog 175 #[.slice ad n cap] w fun e w'=>e=.returned (.bool (ascB n s))∧∃ q,w'=w.drewN q:=by
 go_enter Tryz.func175,Tryz.ntmps175
 go_wp2
 go_loopw [3] (fun i wr=>∃ k:Nat,k≤n∧i=.int .i64 k∧(∀ j,j<k→(nameB (s j)&&(j==0||ltB (s (j-1)) (s j)))=true)∧∃ q,wr=w.drewN q) (fun i _=>n-(intOf i).toNat)
 case atStart=>exact ⟨0,Nat.zero_le _,rfl,fun j hj=>absurd hj (Nat.not_lt_zero _),0,rfl⟩
 case round=>
  obtain ⟨k,hk,rfl,hall,q,hq⟩:=hrel
  have HQ:=hid hq
  by_cases hkn:k<n
  ·obtain ⟨b,off,rfl,hlo,hbh,hcx0⟩:=hc k hkn
   have hcx:wr.cell? ⟨b,off+k,none⟩=some (.string (s k)):=by rw [hq];exact hcx0
   have hmk:=hm k hkn
   have HA:=hid hall
   clear hall hcx0
   cases hn:nameB (s k) with
   | false=>
    have HE:=hid (allTo_no (p:=fun i=>nameB (s i)&&(i==0||ltB (s (i-1)) (s i))) hkn (by rw [hn];rfl))
    clear hc hm hq
    exact apP043
   | true=>
    rcases Nat.eq_zero_or_pos k with rfl|hpos
    ·clear hc hm hq
     have HN:=hid (show (nameB (s 0)&&((0:Nat)==0||ltB (s (0-1)) (s 0)))=true by rw [hn];rfl)
     simp only [Nat.add_zero] at hcx
     go_wp2
     go_quiet ((go_at_call 110;go_must (exact Calls.quiet_of_same (nameOk_any _ _ hmk))))
     go_wp2
     go_roundw
     case rel=>exact ⟨1,Za,by go_num,fun j hj=>(by
      have:j=0:=Za
      subst this;exact HN.out),drewQ HQ.out⟩
     case measure=>simp [intOf];omega
    ·obtain ⟨m,rfl⟩:∃ m,k=m+1:=⟨k-1,Za⟩
     obtain ⟨b',off',e,_,_,hcy0⟩:=hc m Za
     cases e
     have hcy:wr.cell? ⟨b,off+m,none⟩=some (.string (s m)):=by rw [hq];exact hcy0
     have hg:decide ((0:Int)<((m+1:Nat):Int))=true:=decide_eq_true Za
     clear hc hm hq hcy0
     cases hlt:ltB (s m) (s (m+1)) with
     | false=>
      have HE:=hid (allTo_no (p:=fun i=>nameB (s i)&&(i==0||ltB (s (i-1)) (s i))) hkn (by rw [hn];simp [hlt]))
      have hlt':Op.bytesLess (s m).toList (s (m+1)).toList=false:=hlt
      clear hlt
      exact apP043
     | true=>
      have HN:=hid (show (nameB (s (m+1))&&(m+1==0||ltB (s (m+1-1)) (s (m+1))))=true by rw [hn];simp [hlt])
      have hlt':Op.bytesLess (s m).toList (s (m+1)).toList=true:=hlt
      clear hlt
      go_wp2
      go_quiet ((go_at_call 110;go_must (exact Calls.quiet_of_same (nameOk_any _ _ hmk))))
      go_wp2
      go_roundw
      case rel=>exact ⟨m+2,Za,by go_num,fun j hj=>(by
       rcases Nat.lt_or_ge j (m+1) with h3|h3
       ·exact HA.out j h3
       ·have:j=m+1:=Za
        subst this;exact HN.out),drewQ HQ.out⟩
      case measure=>simp [intOf];omega
  ·have HE:=hid (allTo_iff.2 (fun i hi=>hall i Za))
   have:k=n:=Za
   subst this
   clear hall hc hm hq
   go_wp2
   go_ret
   exact ⟨ret_bool HE.out.symm,q,HQ.out⟩
theorem below_alloc' (w:World) (o:Obj):Below w.1.size w (w.alloc o):=(Below.refl _ _).alloc Zbt o
def ascS (n:Nat) (s:Nat→ByteArray):Bool:=allTo (fun i=>i==0||ltB (s (i-1)) (s i)) n
theorem ascB_split (n:Nat) (s:Nat→ByteArray):ascB n s=(ascS n s&&allTo (fun i=>nameB (s i)) n):=by
 rw [Bool.eq_iff_iff,Bool.and_eq_true]
 unfold ascB ascS
 rw [allTo_iff,allTo_iff,allTo_iff]
 constructor
 ·intro h
  exact ⟨fun i hi=>by have:=h i hi;simp only [Bool.and_eq_true] at this;exact this.2,fun i hi=>by have:=h i hi;simp only [Bool.and_eq_true] at this;exact this.1⟩
 ·intro h i hi
  rw [Bool.and_eq_true]
  exact ⟨h.2 i hi,h.1 i hi⟩
theorem ascS_any (n:Nat) (s:Nat→ByteArray) (ad:Option Addr) (cap:Nat) (w:World) (lo hi:Nat) (hl:(n:Int)≤140737488355328) (hc:StrsIn w lo hi ad n s) :
  Calls Tryz.prog 199 #[.slice ad n cap,.func (.func 200) #[] #[]] w fun e w'=>e=.returned (.bool (ascS n s))∧∃ q,w'=w.drewN q:=by
 go_enter Tryz.func199,Tryz.ntmps199
 go_wp2
 go_loopw [5] (fun i wr=>∃ k:Nat,1≤k∧(k≤n∨k=1)∧i=.int .i64 k∧(∀ j,j<k→(j==0||ltB (s (j-1)) (s j))=true)∧∃ q,wr=w.drewN q) (fun i _=>n-(intOf i).toNat)
 case atStart=>exact ⟨1,Nat.le_refl _,Or.inr rfl,rfl,fun j hj=>(by
   have:j=0:=Za
   subst this;rfl),0,rfl⟩
 case round=>
  obtain ⟨k,hk1,hk,rfl,hall,q,hq⟩:=hrel
  have HQ:=hid hq
  by_cases hkn:k<n
  ·obtain ⟨m,rfl⟩:∃ m,k=m+1:=⟨k-1,Za⟩
   obtain ⟨b,off,rfl,hlo,hbh,hcx0⟩:=hc (m+1) hkn
   obtain ⟨b',off',e,_,_,hcy0⟩:=hc m Za
   cases e
   have hcx:wr.cell? ⟨b,off+(m+1),none⟩=some (.string (s (m+1))):=by rw [hq];exact hcx0
   have hcy:wr.cell? ⟨b,off+m,none⟩=some (.string (s m)):=by rw [hq];exact hcy0
   have HA:=hid hall
   have hkz:(m:Int)+1≤n:=Za
   clear hall hcx0 hcy0 hc hq hk
   cases hlt:ltB (s m) (s (m+1)) with
   | false=>
    have HE:=hid (allTo_no (p:=fun i=>i==0||ltB (s (i-1)) (s i)) hkn (by simp [hlt]))
    go_wp2
    go_quiet ((go_at_call 200;go_must (exact Calls.quiet_of_same (textBefore_any _ _ _))))
    go_wp2
    go_ret
    exact ⟨ret_bool HE.out.symm,drewQ HQ.out⟩
   | true=>
    have HN:=hid (show (m+1==0||ltB (s (m+1-1)) (s (m+1)))=true by simp [hlt])
    go_wp2
    go_quiet ((go_at_call 200;go_must (exact Calls.quiet_of_same (textBefore_any _ _ _))))
    go_wp2
    go_roundw
    case rel=>exact ⟨m+2,Za,Or.inl Za,by go_num,fun j hj=>(by
     rcases Nat.lt_or_ge j (m+1) with h3|h3
     ·exact HA.out j h3
     ·have:j=m+1:=Za
      subst this;exact HN.out),drewQ HQ.out⟩
    case measure=>simp [intOf];omega
  ·have HE:=hid (allTo_iff.2 (fun i hi=>hall i Za):ascS n s=true)
   clear hall hc hq hk
   go_wp2
   go_ret
   exact ⟨ret_bool HE.out.symm,q,HQ.out⟩
def holdsB (n:Nat) (s:Nat→ByteArray):Bool:=decide (n≤5)&&ascB n s
theorem holdsFit_any (n:Nat) (s:Nat→ByteArray) (ad:Option Addr) (cap:Nat) (w:World) (lo hi:Nat) (hl:(n:Int)≤140737488355328) (hm:∀ i,i<n→((s i).size:Int)≤140737488355328) (hc:StrsIn w lo hi ad n s) :
  Calls Tryz.prog 177 #[.slice ad n cap] w fun e w'=>e=.returned (.bool (holdsB n s))∧∃ q,w'=w.drewN q:=by
 by_cases h5:(5:Int)<n
 ·have HE:=hid (show holdsB n s=false by unfold holdsB;rw [decide_eq_false Za];rfl)
  go_enter Tryz.func177,Tryz.ntmps177
  go_wp2
  go_ret
  exact ⟨ret_bool HE.out.symm,0,rfl⟩
 cases ha:ascS n s with
 | false=>
  have HE:=hid (show holdsB n s=false by unfold holdsB;rw [ascB_split,ha];simp)
  go_enter Tryz.func177,Tryz.ntmps177
  go_wp2_with (go_at_call 199;refine (ascS_any n s ad cap _ lo hi hl hc).mono ?_;rintro e w1 ⟨rfl,q,rfl⟩)
  go_ret
  exact ⟨ret_bool HE.out.symm,_,rfl⟩
 | true=>
  have HAS:=hid ha
  go_enter Tryz.func177,Tryz.ntmps177
  go_wp2_with (go_at_call 199;refine (ascS_any n s ad cap _ lo hi hl hc).mono ?_;rintro e w1 ⟨rfl,q0,rfl⟩)
  go_loop [15] (fun i=>∃ k:Nat,k≤n∧i=.int .i64 k∧∀ j,j<k→nameB (s j)=true) (fun i=>n-(intOf i).toNat)
  case atStart=>exact ⟨0,Nat.zero_le _,rfl,fun j hj=>absurd hj (Nat.not_lt_zero _)⟩
  case round=>
   obtain ⟨k,hk,rfl,hall⟩:=hrel
   by_cases hkn:k<n
   ·obtain ⟨b,off,rfl,hlo,hbh,hcx⟩:=hc k hkn
    have hmk:=hm k hkn
    have HA:=hid hall
    clear hall hc hm ha
    cases hn:nameB (s k) with
    | false=>
     have HE:=hid (show holdsB n s=false by unfold holdsB;rw [ascB_split,allTo_no (p:=fun i=>nameB (s i)) hkn hn];simp)
     go_wp2_with (go_at_call 90;refine (isName_any _ _ hmk).mono ?_;rintro e w1 ⟨rfl,rfl⟩)
     go_ret
     exact ⟨ret_bool HE.out.symm,_,rfl⟩
    | true=>
     have HN:=hid hn
     go_wp2_with (go_at_call 90;refine (isName_any _ _ hmk).mono ?_;rintro e w1 ⟨rfl,rfl⟩)
     go_round
     case rel=>exact ⟨k+1,Za,by go_num,fun j hj=>(by
      rcases Nat.lt_or_ge j k with h3|h3
      ·exact HA.out j h3
      ·have:j=k:=Za
       subst this;exact HN.out)⟩
     case measure=>simp [intOf];omega
   ·have HE:=hid (show holdsB n s=true by unfold holdsB;rw [ascB_split,HAS.out,decide_eq_true (show n≤5 by omega),allTo_iff.2 (fun i hi=>hall i Za)];rfl)
    clear hall hc hm ha
    go_wp2
    go_ret
    exact ⟨ret_bool HE.out.symm,_,rfl⟩
def standB (x:Ob):Bool:=!x.ending||decide (0<x.hn)
def goneB (x:Ob):Bool:=x.ending&&(decide (x.hn=0)&&decide (x.born<x.ver))
theorem mayStand_any (x:Ob) (ad:Option Addr) (cap:Nat) (w:World) (hl:(x.hn:Int)≤140737488355328) :
  Calls Tryz.prog 137 #[.agg #[.string x.kind,.string x.name,.int .i64 x.ver,.int .i64 x.born,.string x.text,.bool x.ending,.slice ad x.hn cap]] w fun e w'=>e=.returned (.bool (standB x))∧Below w.1.size w w':=by
 obtain ⟨ki,na,ve,bo,te,en,hn,hs⟩:=x
 dsimp only at hl ⊢
 cases en with
 | false=>
  go_enter Tryz.func137,Tryz.ntmps137
  go_wp2
  go_ret
  exact ⟨rfl,below_alloc' _ _⟩
 | true=>
  go_enter Tryz.func137,Tryz.ntmps137
  go_wp2
  go_ret
  refine ⟨ret_bool ?_,below_alloc' _ _⟩
  simp [standB]
theorem mayBeGone_any (x:Ob) (ad:Option Addr) (cap:Nat) (w:World) (hl:(x.hn:Int)≤140737488355328) :
  Calls Tryz.prog 178 #[.agg #[.string x.kind,.string x.name,.int .i64 x.ver,.int .i64 x.born,.string x.text,.bool x.ending,.slice ad x.hn cap]] w fun e w'=>e=.returned (.bool (goneB x))∧Below w.1.size w w':=by
 obtain ⟨ki,na,ve,bo,te,en,hn,hs⟩:=x
 dsimp only at hl ⊢
 cases en with
 | false=>
  go_enter Tryz.func178,Tryz.ntmps178
  go_wp2
  go_ret
  exact ⟨rfl,below_alloc' _ _⟩
 | true=>
  rcases Nat.eq_zero_or_pos hn with rfl|hp
  ·go_enter Tryz.func178,Tryz.ntmps178
   go_wp2
   go_ret
   exact ⟨ret_bool (by simp [goneB]),below_alloc' _ _⟩
  ·have he:((hn:Int)==0)=false:=Zc
   have HE:=hid (show goneB ⟨ki,na,ve,bo,te,true,hn,hs⟩=false by simp [goneB];omega)
   go_enter Tryz.func178,Tryz.ntmps178
   go_wp2
   go_ret
   exact ⟨ret_bool HE.out.symm,below_alloc' _ _⟩
def keyI (x z:Ob):Int:=if ltB x.kind z.kind then -1 else if x.kind.toList=z.kind.toList then (if ltB x.name z.name then -1 else if x.name.toList=z.name.toList then 0 else 1) else 1
def befB (x z:Ob):Bool:=if x.kind.toList=z.kind.toList then ltB x.name z.name else ltB x.kind z.kind
theorem apP040 {P:Prop} (h:P:=by
  go_enter Tryz.func127,Tryz.ntmps127
  go_wp2
  go_ret
  exact ⟨ret_int HE.out.symm,HB.out _ _⟩):P:=h
theorem key_any (x z:Ob) (ad ad2:Option Addr) (cap cap2:Nat) (w:World) :
  Calls Tryz.prog 127 #[.agg #[.string x.kind,.string x.name,.int .i64 x.ver,.int .i64 x.born,.string x.text,.bool x.ending,.slice ad x.hn cap],.agg #[.string z.kind,.string z.name,.int .i64 z.ver,.int .i64 z.born,.string z.text,.bool z.ending,.slice ad2 z.hn cap2]] w fun e w'=>e=.returned (.int .i64 (keyI x z))∧Below w.1.size w w':=by
 have hB:∀ o1 o2:Obj,Below w.1.size w ((w.alloc o1).alloc o2):=fun o1 o2=>(below_alloc' _ _).alloc Zd _
 have HB:=hid hB
 clear hB
 cases h1:ltB x.kind z.kind with
 | true=>
  have HE:=hid (show keyI x z = -1 by unfold keyI;rw [h1];rfl)
  have h1':Op.bytesLess x.kind.toList z.kind.toList=true:=h1
  clear h1
  exact apP040
 | false=>
  have h1':Op.bytesLess x.kind.toList z.kind.toList=false:=h1
  by_cases h2:x.kind.toList=z.kind.toList
  ·have h2':(x.kind.toList==z.kind.toList)=true:=by simp [h2]
   cases h3:ltB x.name z.name with
   | true=>
    have HE:=hid (show keyI x z = -1 by unfold keyI;rw [h1,if_pos h2,h3];rfl)
    have h3':Op.bytesLess x.name.toList z.name.toList=true:=h3
    clear h1 h2 h3
    exact apP040
   | false=>
    have h3':Op.bytesLess x.name.toList z.name.toList=false:=h3
    by_cases h4:x.name.toList=z.name.toList
    ·have HE:=hid (show keyI x z=0 by unfold keyI;rw [h1,if_pos h2,h3,if_pos h4];rfl)
     have h4':(x.name.toList==z.name.toList)=true:=by simp [h4]
     clear h1 h2 h3 h4
     exact apP040
    ·have HE:=hid (show keyI x z=1 by unfold keyI;rw [h1,if_pos h2,h3,if_neg h4];rfl)
     have h4':(x.name.toList==z.name.toList)=false:=by simp [h4]
     clear h1 h2 h3 h4
     exact apP040
  ·have HE:=hid (show keyI x z=1 by unfold keyI;rw [h1,if_neg h2];rfl)
   have h2':(x.kind.toList==z.kind.toList)=false:=by simp [h2]
   clear h1 h2
   exact apP040
end Go.Proofs.YtllmmkchokkaaaaGreatDoor
