import Derived.Test.YtllmmkchokkaaaaGreatDoorAp
import Derived.Test.YtllmmkchokkaaaaGreatDoorRows
import Derived.WalkKit
import Derived.WalkSpells
import Derived.WalkLawsBesides
import Derived.Laws.IdiomStrings
import Derived.Deep.RegionWith
import Derived.Deep.QuietTactic
import Derived.BigQuiet
set_option maxRecDepth 100000
set_option maxHeartbeats 400000
namespace Go.Proofs.YtllmmkchokkaaaaGreatDoor
open Go.RowKit
theorem hid {p:Prop} (h:p):Hid p:=h
def StrsIn (w:World) (lo hi:Nat) (ad:Option Addr) (n:Nat) (s:Nat→ByteArray):Prop:=
 ∀ i,i<n→∃ b off,ad=some ⟨b,off,none⟩∧lo≤b∧b<hi∧w.cell? ⟨b,off+i,none⟩=some (.string (s i))
def StrsOwn (w:World) (lo hi:Nat) (ad:Option Addr) (n:Nat) (s:Nat→ByteArray):Prop:=
 ∀ i,i<n→∃ b off,ad=some ⟨b,off,none⟩∧lo≤b∧b<hi∧w.cell? ⟨b,off+i,none⟩=some (.string (s i))∧w.frozen? ⟨b,off+i,none⟩=false
def CapG (w:World) (n:Nat) (ad:Option Addr) (cap:Nat):Prop:=n≤cap∧((ad=none∧n=0∧cap=0)∨∃ b off,ad=some ⟨b,off,none⟩∧b<w.1.size)
theorem CapG.grow {w w':World} {n:Nat} {ad:Option Addr} {cap:Nat} (h:CapG w n ad cap) (hz:w.1.size≤w'.1.size):CapG w' n ad cap:=
 ⟨h.1,h.2.imp id (fun ⟨b,off,e1,e2⟩=>⟨b,off,e1,Nat.lt_of_lt_of_le e2 hz⟩)⟩
theorem Tryz.info9:(Tryz.prog.info? 9).map (fun i=>(i.zero,i.size,i.bytes))=some (some (.string ByteArray.empty),1,16):=Zf
theorem toStrs_rel {w':World} {g n:Nat} {base:Nat} {xs:List Value}
  (ho:w'.ownsRow base 9 1 (.slice (some ⟨g,0,none⟩) n n) n xs) :
  (∀ j,j<n→∃ u,w'.cell? ⟨g,j,none⟩=some u)∧(∀ j,w'.frozen? ⟨g,j,none⟩=false)∧g<w'.1.size:=by
 refine ⟨fun j hj=>?_,fun j=>ho.frozenAt j,?_⟩
 ·rw [ho.cellAt j Za]
  have:j<xs.length:=by rw [ho.1];omega
  exact ⟨xs[j],by simp [this]⟩
 ·rcases ho.2 with ⟨h,_⟩|⟨g',cap,cur,h,_,hh,_⟩
  ·simp at h
  ·simp only [Value.slice.injEq,Option.some.injEq,Addr.mk.injEq,and_true,true_and] at h
   obtain ⟨rfl,rfl⟩:=h
   exact (Array.getElem?_eq_some_iff.1 hh).1
theorem toStrs_step {w wr:World} {n k:Nat} {s:Nat→ByteArray} (hb:Below w.1.size w wr) (hsz:w.1.size<wr.1.size) (hce:∀ j,j<n→∃ u,wr.cell? ⟨w.1.size,j,none⟩=some u)
  (hfr:∀ j,wr.frozen? ⟨w.1.size,j,none⟩=false) (hd:∀ j,j<k→wr.cell? ⟨w.1.size,j,none⟩=some (.string (s j))) (hk:k<n) :
  let w2:=wr.setCell ⟨w.1.size,k,none⟩ (.string (s k))
  Below w.1.size w w2∧w.1.size<w2.1.size∧(∀ j,j<n→∃ u,w2.cell? ⟨w.1.size,j,none⟩=some u)∧(∀ j,w2.frozen? ⟨w.1.size,j,none⟩=false)∧∀ j,j<k+1→w2.cell? ⟨w.1.size,j,none⟩=some (.string (s j)):=by
 refine ⟨hb.setCell Zbt _,by simpa [World.setCell] using hsz,fun j hj=>?_,fun j=>by rw [World.frozen?_setCell];exact hfr j,fun j hj=>?_⟩
 ·obtain ⟨u,hu⟩:=hce j hj
  exact cell?_setCell_some hu
 ·obtain ⟨u,hu⟩:=hce k hk
  by_cases e:j=k
  ·subst e;exact World.cell?_setCell_same _ _ _ hu
  ·rw [World.cell?_setCell_other _ _ _ _ (fun h=>e (by cases h;rfl))]
   exact hd j Za
theorem toStrs_any (n:Nat) (s:Nat→ByteArray) (ad:Option Addr) (cap:Nat) (w:World) (lo hi:Nat) (hhi:hi≤w.1.size) (hl:(n:Int)≤8796093022208)
  (hc:StrsIn w lo hi ad n s) :
  Calls Tryz.prog 133 #[.slice ad n cap] w fun e w'=>∃ ad' cap',e=.returned (.slice ad' n cap')∧CapG w' n ad' cap'∧StrsOwn w' w.1.size w'.1.size ad' n s∧Below w.1.size w w':=by
 obtain ⟨i0,hi0,hz0,hz1,hz2⟩:=info_parts Tryz.info9
 go_enter Tryz.func133,Tryz.ntmps133
 go_wp2_with (first
  | (at_make;refine wpList_make_full _ rfl _ _ 108 rfl w.1.size 9 i0 (.string ByteArray.empty) 1 Tryz.underlying108 hi0 hz0 hz1 .i64 .i64 _ _ n rfl rfl Za Za Zbd Zs Za ?_;intro w1 hown1 hgrow1)
  )
 obtain ⟨r1,r2,r3⟩:=toStrs_rel hown1
 have hb1:Below w.1.size w w1:=(Below.refl _ _).grown hgrow1 Zbt Zd
 clear hown1 hgrow1 hi0 hz0 hz1 hz2
 go_loopw [4] (fun i wr=>∃ k:Nat,k≤n∧i=.int .i64 k∧Below w.1.size w wr∧w.1.size<wr.1.size∧(∀ j,j<n→∃ u,wr.cell? ⟨w.1.size,j,none⟩=some u)∧(∀ j,wr.frozen? ⟨w.1.size,j,none⟩=false)∧∀ j,j<k→wr.cell? ⟨w.1.size,j,none⟩=some (.string (s j))) (fun i _=>n-(intOf i).toNat)
 case atStart=>exact ⟨0,Nat.zero_le _,rfl,hb1,r3,r1,r2,fun j hj=>absurd hj (Nat.not_lt_zero _)⟩
 case round=>
  obtain ⟨k,hk,rfl,hb,hsz,hce,hfr,hdone⟩:=hrel
  clear r1 r2 r3 hb1
  by_cases hkn:k<n
  ·obtain ⟨b,off,rfl,hlo,hbh,hcx⟩:=hc k hkn
   have hcx':wr.cell? ⟨b,off+k,none⟩=some (.string (s k)):=(hb.cell (p:=⟨b,off+k,none⟩) Zk).trans hcx
   obtain ⟨u,hu⟩:=hce k hkn
   have hfk:=hfr k
   have R:=toStrs_step (s:=s) hb hsz hce hfr hdone hkn
   clear hc hcx hce hfr hdone
   have HR:=hid R
   clear R
   go_wp2
   go_roundw
   case rel=>exact ⟨k+1,Za,by go_num,HR.out⟩
   case measure=>simp [intOf];omega
  ·have:k=n:=Za
   subst this
   have HR:=hid (And.intro hsz (And.intro hfr hdone))
   clear hc hce hfr hdone
   go_wp2
   go_ret
   exact ⟨_,_,rfl,⟨Nat.le_refl _,Or.inr ⟨_,_,rfl,HR.out.1⟩⟩,fun i hi=>⟨_,0,rfl,Nat.le_refl _,HR.out.1,by simpa using HR.out.2.2 i hi,by simpa using HR.out.2.1 i⟩,hb⟩
def sumTo (f:Nat→Nat):Nat→Nat|0=>0|k+1=>sumTo f k+f k
theorem sumTo_mono (f:Nat→Nat) {k n:Nat} (h:k≤n):sumTo f k≤sumTo f n:=by
 induction n with
 | zero=>
   have:k=0:=Za
   subst this;exact Nat.le_refl _
 | succ m ih=>
   rcases Nat.lt_or_ge m k with h1|h1
   ·have:k=m+1:=Za
    subst this;exact Nat.le_refl _
   ·exact Nat.le_trans (ih h1) (by simp [sumTo])
def szStrs (n:Nat) (s:Nat→ByteArray):Nat:=n+sumTo (fun i=>(s i).size) n
def szOut (left:Int) (s:Nat):Int:=if (s:Int)≤left then left-s else -1
theorem szOut_no {left:Int} {s:Nat} (h:left<s):szOut left s = -1:=if_neg Za
theorem szOut_yes {left:Int} {s:Nat} (h:(s:Int)≤left):szOut left s=left-s:=if_pos h
theorem ret_int {k:IntKind} {a b:Int} (h:a=b):Ending.returned (.int k a)=.returned (.int k b):=by rw [h]
theorem szStrs_any (n:Nat) (s:Nat→ByteArray) (ad:Option Addr) (cap:Nat) (left:Int) (w:World) (hl:(n:Int)≤140737488355328) (h0:0≤left) (h1:left≤1048576) (hm:∀ i,i<n→((s i).size:Int)≤140737488355328)
  (lo hi:Nat) (hc:StrsIn w lo hi ad n s) :
  Calls Tryz.prog 125 #[.slice ad n cap,.int .i64 left] w fun e w'=>e=.returned (.int .i64 (szOut left (szStrs n s)))∧w'=w:=by
 by_cases hlt:left-n<0
 ·go_enter Tryz.func125,Tryz.ntmps125
  go_wp2
  go_ret
  refine ⟨ret_int ?_,rfl⟩
  rw [szOut_no (by unfold szStrs;omega)]
 ·go_enter Tryz.func125,Tryz.ntmps125
  go_wp2
  go_loop [1,5] (fun t i=>∃ k:Nat,k≤n∧i=.int .i64 k∧t=.int .i64 (left-n-(sumTo (fun i=>(s i).size) k:Nat))∧0≤left-n-(sumTo (fun i=>(s i).size) k:Nat)) (fun _ i=>n-(intOf i).toNat)
  case atStart=>exact ⟨0,Nat.zero_le _,rfl,by simp [sumTo],by simp [sumTo];omega⟩
  case round=>
   obtain ⟨k,hk,rfl,rfl,hnn⟩:=hrel
   have hst:sumTo (fun i=>(s i).size) (k+1)=sumTo (fun i=>(s i).size) k+(s k).size:=rfl
   have hmo:k<n→sumTo (fun i=>(s i).size) (k+1)≤sumTo (fun i=>(s i).size) n:=fun h=>sumTo_mono _ h
   generalize hq:sumTo (fun i=>(s i).size) k=q at *
   generalize hq1:sumTo (fun i=>(s i).size) (k+1)=q1 at *
   by_cases hkn:k<n
   ·obtain ⟨b,off,ha,hlo,hbh,hcx⟩:=hc k hkn
    have hmx:=hm k hkn
    have hmo:=hmo hkn
    generalize hs:s k=sk at *
    have HS:Hid (q1=q+sk.size):=hst
    have HQ:Hid (sumTo (fun i=>(s i).size) (k+1)=q1):=hq1
    have HA:Hid (ad=some ⟨b,off,none⟩):=ha
    clear hst hq hq1 hs hc hm
    subst ha
    clear HA
    go_wp2
    ·go_ret
     refine ⟨ret_int ?_,rfl⟩
     have:=HS.out
     rw [szOut_no (by unfold szStrs;omega)]
    ·have hs:=HS.out
     go_round
     case rel=>exact ⟨k+1,Za,by go_num,by rw [HQ.out];apply congrArg;omega,by rw [HQ.out];omega⟩
     case measure=>simp [intOf];omega
   ·have:k=n:=Za
    subst this
    clear hc hm hst hmo hq1
    have HQ:Hid (sumTo (fun i=>(s i).size) k=q):=hq
    clear hq
    go_wp2
    go_ret
    refine ⟨ret_int ?_,rfl⟩
    have:=HQ.out
    rw [szOut_yes (by unfold szStrs;omega)]
    unfold szStrs;omega
structure Fr (lo hi:Nat) (w w':World):Prop where
 os:w'.os=w.os
 tape:w'.tape=w.tape
 output:w'.output=w.output
 size:w.1.size≤w'.1.size
 block:∀ k,k<w.1.size→(k<lo∨hi≤k)→w'.heap[k]? = w.heap[k]?
theorem Fr.refl (lo hi:Nat) (w:World):Fr lo hi w w:=⟨rfl,rfl,rfl,Nat.le_refl _,fun _ _ _=>rfl⟩
theorem Fr.trans {lo hi:Nat} {a b c:World} (h:Fr lo hi a b) (k:Fr lo hi b c):Fr lo hi a c:=
 ⟨k.os.trans h.os,k.tape.trans h.tape,k.output.trans h.output,Nat.le_trans h.size k.size,fun i hi ho=>(k.block i (Nat.lt_of_lt_of_le hi h.size) ho).trans (h.block i hi ho)⟩
theorem Fr.of_below {lo hi:Nat} {w w':World} (h:Below w.1.size w w'):Fr lo hi w w':=⟨h.os,h.tape,h.output,h.size,fun i hi _=>h.block i hi⟩
theorem Fr.setCell {lo hi:Nat} {a w:World} (h:Fr lo hi a w) {p:Addr} (h1:lo≤p.block) (h2:p.block<hi) (u:Value):Fr lo hi a (w.setCell p u):=
 h.trans ⟨rfl,rfl,rfl,by simp [World.setCell],fun k _ ho=>Below.heap_setCell _ _ _ _ Za⟩
theorem Fr.cell {lo hi:Nat} {w w':World} (h:Fr lo hi w w') {p:Addr} (hp:p.block<w.1.size) (ho:p.block<lo∨hi≤p.block):w'.cell? p=w.cell? p:=World.cell?_of_block (w:=w) (h.block p.block hp ho)
theorem Fr.frozen {lo hi:Nat} {w w':World} (h:Fr lo hi w w') {p:Addr} (hp:p.block<w.1.size) (ho:p.block<lo∨hi≤p.block):w'.frozen? p=w.frozen? p:=World.frozen?_of_block (w:=w) (h.block p.block hp ho)
theorem Fr.below {lo hi:Nat} {w w':World} (h:Fr lo hi w w') {B:Nat} (hB:B≤lo) (hs:B≤w.1.size):Below B w w':=⟨h.os,h.tape,h.output,h.size,fun k hk=>h.block k Za (Or.inl Za)⟩
def mtGo:Nat→Nat→List UInt8→List UInt8
 | 0,_,acc=>acc
 | f+1,k,acc=>if k=0 then acc else mtGo f (k / 10) ((48+UInt8.ofNat (k % 10))::acc)
theorem mtGo_zero (f:Nat) (acc:List UInt8):mtGo f 0 acc=acc:=by cases f<;>simp [mtGo]
theorem mtGo_succ (f k:Nat) (acc:List UInt8) (h:k≤f) (hk:0<k):mtGo f k acc=mtGo (f-1) (k / 10) ((48+UInt8.ofNat (k % 10))::acc):=by
 obtain ⟨f,rfl⟩:∃ g,f=g+1:=⟨f-1,Za⟩
 conv=>lhs;unfold mtGo
 rw [if_neg Za];rfl
def mt (k:Nat):ByteArray:=⟨(109::mtGo k k []).toArray⟩
theorem mt_conv (w:World) (x:Int) (hx0:0≤x) (hx1:x<256):(convert 217 9 (Value.slice (some ⟨w.1.size,0,none⟩) 1 1)).run Tryz.prog (w.alloc (.cells #[.int .u8 x] 5))=.ok (.string ⟨#[UInt8.ofNat x.toNat]⟩) (w.alloc (.cells #[.int .u8 x] 5)):=by
 have:=run_convert_bytes_back (P:=Tryz.prog) (w.alloc (.cells #[.int .u8 x] 5)) 217 9 5 ⟨w.1.size,0,none⟩ 1 [UInt8.ofNat x.toNat] Tryz.underlying217 Tryz.underlying5 Tryz.underlying9 (by
  intro i hi
  have:i=0:=by simpa using hi
  subst this
  have e:((⟨w.1.size,0,none⟩:Addr).add 0)=⟨w.1.size,0,none⟩:=by simp [Addr.add]
  rw [e,World.cell?_alloc_new]
  simp
  omega)
 simpa using this
theorem markText_any (k:Nat) (w:World) (h1:1≤(k:Int)) (h2:(k:Int)≤1099511627776) :
  Calls Tryz.prog 107 #[.int .i64 k] w fun e w'=>e=.returned (.string (mt k))∧Below w.1.size w w':=by
 go_enter Tryz.func107,Tryz.ntmps107
 go_wp2
 go_loopw [0,3] (fun t o wr=>∃ (j f:Nat) (acc:List UInt8),t=.int .i64 j∧o=.string ⟨acc.toArray⟩∧j≤f∧acc.length+j≤k∧mtGo f j acc=mtGo k k []∧Below w.1.size w wr) (fun t _ _=>(intOf t).toNat)
 case atStart=>exact ⟨k,k,[],rfl,rfl,Nat.le_refl _,Zd,rfl,Below.refl _ _⟩
 case round=>
  obtain ⟨j,f,acc,rfl,rfl,hjf,hal,hgo,hb⟩:=hrel
  have HG:=hid hgo
  clear hgo
  have hsz:((⟨acc.toArray⟩:ByteArray).size)=acc.length:=by simp [ByteArray.size]
  by_cases hj0:0<(j:Int)
  ·have hcv':=mt_conv wr (48+(j:Int) % 10) Za Za
   go_wp2
   go_roundw
   case rel=>exact ⟨j / 10,f-1,_::acc,by go_num,rfl,Za,Zc,by rw [←HG.out,mtGo_succ f j acc hjf Za],hb.alloc hb.size _⟩
   case measure=>simp [intOf];omega
  ·have hj:j=0:=Za
   subst hj
   have HG2:Hid (acc=mtGo k k []):=by have:=HG.out;rw [mtGo_zero] at this;exact this
   clear HG
   go_wp2
   go_ret
   refine ⟨?_,hb⟩
   rw [mt,←HG2.out]
   exact congrArg (fun x=>Ending.returned (Value.string x)) rfl
theorem markStep {wr w1:World} {lo hi b off n k k0:Nat} {s:Nat→ByteArray} (hown:StrsOwn wr lo hi (some ⟨b,off,none⟩) n (fun i=>if i<k then mt (k0+i) else s i)) (hb1:Below wr.1.size wr w1) (hhi:hi≤wr.1.size) (hkn:k<n) {u:Value} (hu:w1.cell? ⟨b,off+k,none⟩=some u) :
  StrsOwn (w1.setCell ⟨b,off+k,none⟩ (.string (mt (k0+k)))) lo hi (some ⟨b,off,none⟩) n (fun i=>if i<k+1 then mt (k0+i) else s i):=by
 intro i hi'
 obtain ⟨b',off',e,e1,e2,e3,e4⟩:=hown i hi'
 cases e
 refine ⟨b,off,rfl,e1,e2,?_,by rw [World.frozen?_setCell,hb1.frozen (p:=⟨b,off+i,none⟩) (Nat.lt_of_lt_of_le e2 hhi)];exact e4⟩
 by_cases e:i=k
 ·subst e
  rw [World.cell?_setCell_same _ _ _ hu];dsimp only;rw [if_pos Za]
 ·rw [World.cell?_setCell_other _ _ _ _ (fun h=>e (by injection h;omega)),hb1.cell (p:=⟨b,off+i,none⟩) (Nat.lt_of_lt_of_le e2 hhi),e3]
  dsimp only
  by_cases h:i<k
  ·rw [if_pos h,if_pos Za]
  ·rw [if_neg h,if_neg Za]
theorem markStrs_any (n:Nat) (s:Nat→ByteArray) (ad:Option Addr) (cap k0:Nat) (w:World) (lo hi:Nat) (hhi:hi≤w.1.size) (hl:(n:Int)≤1073741824) (hk1:1≤(k0:Int)) (hk2:(k0:Int)≤1073741824)
  (hc:StrsOwn w lo hi ad n s) :
  Calls Tryz.prog 108 #[.slice ad n cap,.int .i64 k0] w fun e w'=>e=.returned (.int .i64 (k0+n:Nat))∧StrsOwn w' lo hi ad n (fun i=>mt (k0+i))∧Fr lo hi w w':=by
 go_enter Tryz.func108,Tryz.ntmps108
 go_wp2
 go_loopw [1,5] (fun t i wr=>∃ k:Nat,k≤n∧i=.int .i64 k∧t=.int .i64 (k0+k:Nat)∧Fr lo hi w wr∧StrsOwn wr lo hi ad n (fun i=>if i<k then mt (k0+i) else s i)) (fun _ i _=>n-(intOf i).toNat)
 case atStart=>exact ⟨0,Nat.zero_le _,rfl,rfl,Fr.refl _ _ _,by simpa using hc⟩
 case round=>
  obtain ⟨k,hk,rfl,rfl,hfr,hown⟩:=hrel
  clear hc
  by_cases hkn:k<n
  ·obtain ⟨b,off,rfl,hlo,hbh,hcx,hfx⟩:=hown k hkn
   go_wp2_with (go_at_call 107;refine (markText_any (k0+k) _ Za Za).mono ?_;rintro e w1 ⟨rfl,hb1⟩;have hcx1:=(hb1.cell (p:=⟨b,off+k,none⟩) (Nat.lt_of_lt_of_le hbh (Nat.le_trans hhi hfr.size))).trans hcx;have hfx1:=(hb1.frozen (p:=⟨b,off+k,none⟩) (Nat.lt_of_lt_of_le hbh (Nat.le_trans hhi hfr.size))).trans hfx)
   go_roundw
   case rel=>exact ⟨k+1,Za,by go_num,by go_num,(hfr.trans (Fr.of_below hb1)).setCell hlo hbh _,markStep hown hb1 (Nat.le_trans hhi hfr.size) hkn hcx1⟩
   case measure=>simp [intOf];omega
  ·have:k=n:=Za
   subst this
   have HR:Hid (StrsOwn wr lo hi ad k (fun i=>mt (k0+i))):=fun i hi'=>by
    have:=hown i hi'
    dsimp only at this
    rwa [if_pos hi'] at this
   clear hown
   go_wp2
   go_ret
   exact ⟨rfl,HR.out,hfr⟩
theorem heldStrs_any (n:Nat) (ad:Option Addr) (cap k0:Nat) (w:World) (lo hi:Nat) (hhi:hi≤w.1.size) (hl:(n:Int)≤1073741824) (hk1:1≤(k0:Int)) (hk2:(k0:Int)≤1073741824)
  (hc:StrsOwn w lo hi ad n (fun i=>mt (k0+i))) :
  Calls Tryz.prog 124 #[.slice ad n cap,.int .i64 k0] w fun e w'=>e=.returned (.int .i64 (k0+n:Nat))∧Below w.1.size w w':=by
 go_enter Tryz.func124,Tryz.ntmps124
 go_wp2
 go_loopw [1,5] (fun t i wr=>∃ k:Nat,k≤n∧i=.int .i64 k∧t=.int .i64 (k0+k:Nat)∧Below w.1.size w wr) (fun _ i _=>n-(intOf i).toNat)
 case atStart=>exact ⟨0,Nat.zero_le _,rfl,rfl,Below.refl _ _⟩
 case round=>
  obtain ⟨k,hk,rfl,rfl,hb⟩:=hrel
  by_cases hkn:k<n
  ·obtain ⟨b,off,rfl,hlo,hbh,hcx,hfx⟩:=hc k hkn
   clear hc hfx
   have hcx1:wr.cell? ⟨b,off+k,none⟩=some (.string (mt (k0+k))):=(hb.cell (p:=⟨b,off+k,none⟩) Zk).trans hcx
   clear hcx
   go_wp2
   go_region_with (go_at_call 107;refine (markText_any (k0+k) _ Za Za).mono ?_;rintro e w1 ⟨rfl,hb1⟩;have hcx2:=(hb1.cell (p:=⟨b,off+k,none⟩) (Nat.lt_of_lt_of_le hbh (Nat.le_trans hhi hb.size))).trans hcx1)
   all_goals
    go_wp2
    go_roundw
    case rel=>exact ⟨k+1,Za,by go_num,by go_num,hb.drew.trans (hb1.mono hb.size)⟩
    case measure=>simp [intOf];omega
  ·have:k=n:=Za
   subst this
   clear hc
   go_wp2
   go_ret
   exact ⟨rfl,hb⟩
theorem StrsIn.below {w w':World} {B lo hi:Nat} {ad:Option Addr} {n:Nat} {s:Nat→ByteArray} (h:StrsIn w lo hi ad n s) (hb:Below B w w') (hB:hi≤B):StrsIn w' lo hi ad n s:=fun i hi'=>by
 obtain ⟨b,off,e1,e2,e3,e4⟩:=h i hi'
 exact ⟨b,off,e1,e2,e3,(hb.cell (p:=⟨b,off+i,none⟩) (Nat.lt_of_lt_of_le e3 hB)).trans e4⟩
theorem StrsIn.alloc {w:World} {lo hi:Nat} {ad:Option Addr} {n:Nat} {s:Nat→ByteArray} (h:StrsIn w lo hi ad n s) (hB:hi≤w.1.size) (o:Obj):StrsIn (w.alloc o) lo hi ad n s:=
 h.below ((Below.refl w.1.size w).alloc Zbt o) hB
theorem szOut_lt {l:Int} {s:Nat} (h:szOut l s<0):l<s:=by
 unfold szOut at h;split at h<;>omega
theorem szOut_ge {l:Int} {s:Nat} (h:0≤szOut l s):(s:Int)≤l∧szOut l s=l-s:=by
 unfold szOut at *;split at h
 ·rw [if_pos Zak];exact ⟨by assumption,rfl⟩
 ·omega
theorem eqStrs_any (n:Nat) (s:Nat→ByteArray) (ad ad2:Option Addr) (cap cap2:Nat) (w:World) (lo hi lo2 hi2:Nat) (hl:(n:Int)≤140737488355328)
  (hc:StrsIn w lo hi ad n s) (hc2:StrsIn w lo2 hi2 ad2 n s) :
  Calls Tryz.prog 166 #[.slice ad n cap,.slice ad2 n cap2] w fun e w'=>e=.returned (.bool true)∧∃ q,w'=w.drewN q:=by
 go_enter Tryz.func166,Tryz.ntmps166
 go_wp2
 go_loopw [5] (fun i wr=>∃ k:Nat,k≤n∧i=.int .i64 k∧∃ q,wr=w.drewN q) (fun i _=>n-(intOf i).toNat)
 case atStart=>exact ⟨0,Nat.zero_le _,rfl,0,rfl⟩
 case round=>
  obtain ⟨k,hk,rfl,q,rfl⟩:=hrel
  by_cases hkn:k<n
  ·obtain ⟨b,off,rfl,hlo,hbh,hcx⟩:=hc k hkn
   obtain ⟨b2,off2,rfl,hlo2,hbh2,hcx2⟩:=hc2 k hkn
   clear hc hc2
   go_wp2
   go_quiet (fail)
   go_wp2
   go_roundw
   case rel=>exact ⟨k+1,Za,by go_num,_,rfl⟩
   case measure=>simp [intOf];omega
  ·have:k=n:=Za
   subst this
   clear hc hc2
   go_wp2
   go_ret
   exact ⟨rfl,q,rfl⟩
structure Ob where
 kind:ByteArray
 name:ByteArray
 ver:Int
 born:Int
 text:ByteArray
 ending:Bool
 hn:Nat
 hs:Nat→ByteArray
def szOb (o:Ob):Nat:=o.kind.size+o.name.size+o.text.size+szStrs o.hn o.hs
theorem apP010 {P:Prop} (h:P:=by
  go_ret
  exact ⟨ret_int (szOut_no Za).symm,(Below.refl _ _).alloc Zbt _⟩):P:=h
theorem szOb_any (ki na te:ByteArray) (ve bo:Int) (en:Bool) (hn:Nat) (hs:Nat→ByteArray) (ad:Option Addr) (cap:Nat) (left:Int) (w:World) (h0:0≤left) (h1:left≤1048576) (lo hi:Nat) (hhi:hi≤w.1.size)
  (hk:(ki.size:Int)≤140737488355328) (hna:(na.size:Int)≤140737488355328) (ht:(te.size:Int)≤140737488355328) (hl:(hn:Int)≤140737488355328) (hm:∀ i,i<hn→((hs i).size:Int)≤140737488355328) (hc:StrsIn w lo hi ad hn hs) :
  Calls Tryz.prog 67 #[.agg #[.string ki,.string na,.int .i64 ve,.int .i64 bo,.string te,.bool en,.slice ad hn cap],.int .i64 left] w fun e w'=>e=.returned (.int .i64 (szOut left (ki.size+na.size+te.size+szStrs hn hs)))∧Below w.1.size w w':=by
 go_enter Tryz.func67,Tryz.ntmps67
 go_wp2_with (go_at_call 125;refine (szStrs_any hn hs ad cap _ _ hl Za Za hm lo hi (hc.alloc hhi _)).mono ?_;rintro e w' ⟨rfl,rfl⟩)
 ·exact apP010
 ·exact apP010
 ·exact apP010
 ·go_ret
  exact ⟨ret_int (szOut_no Zbo).symm,(Below.refl _ _).alloc Zbt _⟩
 ·go_ret
  refine ⟨ret_int ?_,(Below.refl _ _).alloc Zbt _⟩
  obtain ⟨g1,g2⟩:=szOut_ge Zak
  rw [g2,szOut_yes Za];omega
end Go.Proofs.YtllmmkchokkaaaaGreatDoor
