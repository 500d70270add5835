import Derived.Test.YtokkbdlofbdljaaGreatRows
import Derived.WalkKit
import Derived.WalkSpells
import Derived.WalkLawsBesides
import Derived.Deep.RegionWith
import Derived.Deep.QuietTactic
import Derived.BigQuiet
import Derived.Deep.Light
namespace Go.Proofs.YtokkbdlofbdljaaGreat
open Go.RowKit
set_option maxRecDepth 100000
set_option maxHeartbeats 2000000
theorem br (B:Nat) (w:World):Below B w w:=Below.refl B w
theorem ltl {a b c:Nat} (h:a<b) (k:b≤c):a<c:=Nat.lt_of_lt_of_le h k
theorem ltr {a b c:Nat} (h:a≤b) (k:b≤c):a≤c:=Nat.le_trans h k
theorem lrf (n:Nat):n≤n:=Nat.le_refl n
theorem zle (n:Nat):0≤n:=Nat.zero_le n
theorem nlz (n:Nat):¬n<0:=Nat.not_lt_zero n
theorem hid {p:Prop} (h:p):Hid p:=h
def StrsIn (w:World) (lo hi:Nat) (ad:Option Addr) (n:Nat) (s:Nat→ByteArray):Prop:=
 ∀ i,i<n→∃ b off,ad=some ⟨b,off,none⟩∧lo≤b∧b<hi∧w.cell? ⟨b,off+i,none⟩=some (.string (s i))
def StrsOwn (w:World) (lo hi:Nat) (ad:Option Addr) (n:Nat) (s:Nat→ByteArray):Prop:=
 ∀ i,i<n→∃ b off,ad=some ⟨b,off,none⟩∧lo≤b∧b<hi∧w.cell? ⟨b,off+i,none⟩=some (.string (s i))∧w.frozen? ⟨b,off+i,none⟩=false
theorem Tryz.info9:(Tryz.prog.info? 9).map (fun i=>(i.zero,i.size,i.bytes))=some (some (.string ByteArray.empty),1,16):=by kernel_rfl
theorem apK3 {P:Prop} (h:P:=by
  rcases ho.2 with ⟨h,_⟩|⟨g',cap,cur,h,_,hh,_⟩
  ·simp at h
  ·simp only [Value.slice.injEq,Option.some.injEq,Addr.mk.injEq,and_true,true_and] at h
   obtain ⟨rfl,rfl⟩:=h
   exact (Array.getElem?_eq_some_iff.1 hh).1):P:=h
theorem toStrs_rel {w':World} {g n:Nat} {base:Nat} {xs:List Value}
  (ho:w'.ownsRow base 9 1 (.slice (some ⟨g,0,none⟩) n n) n xs) :
  (∀ j,j<n→∃ u,w'.cell? ⟨g,j,none⟩=some u)∧(∀ j,w'.frozen? ⟨g,j,none⟩=false)∧g<w'.1.size:=by
 refine ⟨fun j hj=>?_,fun j=>ho.frozenAt j,?_⟩
 ·rw [ho.cellAt j (by omega)]
  have:j<xs.length:=by rw [ho.1];omega
  exact ⟨xs[j],by simp [this]⟩
 ·exact apK3
theorem apK4 {P:Prop} (h:P:=by
  refine ⟨hb.setCell (lrf _) _,by simpa [World.setCell] using hsz,fun j hj=>?_,fun j=>by rw [World.frozen?_setCell];exact hfr j,fun j hj=>?_⟩
  ·obtain ⟨u,hu⟩:=hce j hj
   exact cell?_setCell_some hu
  ·obtain ⟨u,hu⟩:=hce k hk
   by_cases e:j=k
   ·subst e;exact World.cell?_setCell_same _ _ _ hu
   ·rw [World.cell?_setCell_other _ _ _ _ (fun h=>e (by cases h;rfl))]
    exact hd j (by omega)):P:=h
theorem toStrs_step {w wr:World} {n k:Nat} {s:Nat→ByteArray} (hb:Below w.1.size w wr) (hsz:w.1.size<wr.1.size) (hce:∀ j,j<n→∃ u,wr.cell? ⟨w.1.size,j,none⟩=some u)
  (hfr:∀ j,wr.frozen? ⟨w.1.size,j,none⟩=false) (hd:∀ j,j<k→wr.cell? ⟨w.1.size,j,none⟩=some (.string (s j))) (hk:k<n) :
  let w2:=wr.setCell ⟨w.1.size,k,none⟩ (.string (s k))
  Below w.1.size w w2∧w.1.size<w2.1.size∧(∀ j,j<n→∃ u,w2.cell? ⟨w.1.size,j,none⟩=some u)∧(∀ j,w2.frozen? ⟨w.1.size,j,none⟩=false)∧∀ j,j<k+1→w2.cell? ⟨w.1.size,j,none⟩=some (.string (s j)):=by
 exact apK4
def Zz (f:Nat→Nat):Nat→Nat|0=>0|k+1=>Zz f k+f k
theorem XQ (f:Nat→Nat) {k n:Nat} (h:k≤n):Zz f k≤Zz f n:=by
 induction n with
 | zero=>
   have:k=0:=by omega
   subst this;exact lrf _
 | succ m ih=>
   rcases Nat.lt_or_ge m k with h1|h1
   ·have:k=m+1:=by omega
    subst this;exact lrf _
   ·exact ltr (ih h1) (by simp [Zz])
def YR (n:Nat) (s:Nat→ByteArray):Nat:=n+Zz (fun i=>(s i).size) n
def Yb (left:Int) (s:Nat):Int:=if (s:Int)≤left then left-s else -1
theorem ZH {left:Int} {s:Nat} (h:left<s):Yb left s = -1:=if_neg (by omega)
theorem YK {left:Int} {s:Nat} (h:(s:Int)≤left):Yb left s=left-s:=if_pos h
theorem ZE {k:IntKind} {a b:Int} (h:a=b):Ending.returned (.int k a)=.returned (.int k b):=by rw [h]
theorem szStrs_any (n:Nat) (s:Nat→ByteArray) (ad:Option Addr) (cap:Nat) (left:Int) (w:World) (hl:(n:Int)≤140737488355328) (h0:0≤left) (h1:left≤1048576) (hm:∀ i,i<n→((s i).size:Int)≤140737488355328)
  (lo hi:Nat) (hc:StrsIn w lo hi ad n s) :
  Calls Tryz.prog 26 #[.slice ad n cap,.int .i64 left] w fun e w'=>e=.returned (.int .i64 (Yb left (YR n s)))∧w'=w:=by
 by_cases hlt:left-n<0
 ·go_enter Tryz.func26,Tryz.ntmps26
  go_wp2
  go_ret
  refine ⟨ZE ?_,rfl⟩
  rw [ZH (by unfold YR;omega)]
 ·go_enter Tryz.func26,Tryz.ntmps26
  go_wp2
  go_loop [1,5] (fun t i=>∃ k:Nat,k≤n∧i=.int .i64 k∧t=.int .i64 (left-n-(Zz (fun i=>(s i).size) k:Nat))∧0≤left-n-(Zz (fun i=>(s i).size) k:Nat)) (fun _ i=>n-(intOf i).toNat)
  case atStart=>exact ⟨0,zle _,rfl,by simp [Zz],by simp [Zz];omega⟩
  case round=>
   obtain ⟨k,hk,rfl,rfl,hnn⟩:=hrel
   have hst:Zz (fun i=>(s i).size) (k+1)=Zz (fun i=>(s i).size) k+(s k).size:=rfl
   have hmo:k<n→Zz (fun i=>(s i).size) (k+1)≤Zz (fun i=>(s i).size) n:=fun h=>XQ _ h
   generalize hq:Zz (fun i=>(s i).size) k=q at *
   generalize hq1:Zz (fun i=>(s i).size) (k+1)=q1 at *
   by_cases hkn:k<n
   ·obtain ⟨b,off,ha,hlo,hbh,hcx⟩:=hc k hkn
    have hmx:=hm k hkn
    have hmo:=hmo hkn
    generalize hs:s k=sk at *
    have HS:Hid (q1=q+sk.size):=hst
    have HQ:Hid (Zz (fun i=>(s i).size) (k+1)=q1):=hq1
    have HA:Hid (ad=some ⟨b,off,none⟩):=ha
    clear hst hq hq1 hs hc hm
    subst ha
    clear HA
    go_wp2
    ·go_ret
     refine ⟨ZE ?_,rfl⟩
     have:=HS.out
     rw [ZH (by unfold YR;omega)]
    ·have hs:=HS.out
     go_round
     case rel=>exact ⟨k+1,by omega,by go_num,by rw [HQ.out];apply congrArg;omega,by rw [HQ.out];omega⟩
     case measure=>simp [intOf];omega
   ·have:k=n:=by omega
    subst this
    clear hc hm hst hmo hq1
    have HQ:Hid (Zz (fun i=>(s i).size) k=q):=hq
    clear hq
    go_wp2
    go_ret
    refine ⟨ZE ?_,rfl⟩
    have:=HQ.out
    rw [YK (by unfold YR;omega)]
    unfold YR;omega
structure Fr (lo hi:Nat) (w w':World):Prop where
 os:w'.os=w.os
 tape:w'.tape=w.tape
 output:w'.output=w.output
 size:w.1.size≤w'.1.size
 block:∀ k,k<w.1.size→(k<lo∨hi≤k)→w'.heap[k]? = w.heap[k]?
theorem Fr.refl (lo hi:Nat) (w:World):Fr lo hi w w:=⟨rfl,rfl,rfl,lrf _,fun _ _ _=>rfl⟩
theorem Fr.trans {lo hi:Nat} {a b c:World} (h:Fr lo hi a b) (k:Fr lo hi b c):Fr lo hi a c:=
 ⟨k.os.trans h.os,k.tape.trans h.tape,k.output.trans h.output,ltr h.size k.size,fun i hi ho=>(k.block i (ltl hi h.size) ho).trans (h.block i hi ho)⟩
theorem Fr.of_below {lo hi:Nat} {w w':World} (h:Below w.1.size w w'):Fr lo hi w w':=⟨h.os,h.tape,h.output,h.size,fun i hi _=>h.block i hi⟩
theorem Fr.setCell {lo hi:Nat} {a w:World} (h:Fr lo hi a w) {p:Addr} (h1:lo≤p.block) (h2:p.block<hi) (u:Value):Fr lo hi a (w.setCell p u):=
 h.trans ⟨rfl,rfl,rfl,by simp [World.setCell],fun k _ ho=>Below.heap_setCell _ _ _ _ (by omega)⟩
theorem Fr.cell {lo hi:Nat} {w w':World} (h:Fr lo hi w w') {p:Addr} (hp:p.block<w.1.size) (ho:p.block<lo∨hi≤p.block):w'.cell? p=w.cell? p:=World.cell?_of_block (w:=w) (h.block p.block hp ho)
theorem Fr.frozen {lo hi:Nat} {w w':World} (h:Fr lo hi w w') {p:Addr} (hp:p.block<w.1.size) (ho:p.block<lo∨hi≤p.block):w'.frozen? p=w.frozen? p:=World.frozen?_of_block (w:=w) (h.block p.block hp ho)
theorem Fr.below {lo hi:Nat} {w w':World} (h:Fr lo hi w w') {B:Nat} (hB:B≤lo) (hs:B≤w.1.size):Below B w w':=⟨h.os,h.tape,h.output,h.size,fun k hk=>h.block k (by omega) (Or.inl (by omega))⟩
theorem StrsIn.below {w w':World} {B lo hi:Nat} {ad:Option Addr} {n:Nat} {s:Nat→ByteArray} (h:StrsIn w lo hi ad n s) (hb:Below B w w') (hB:hi≤B):StrsIn w' lo hi ad n s:=fun i hi'=>by
 obtain ⟨b,off,e1,e2,e3,e4⟩:=h i hi'
 exact ⟨b,off,e1,e2,e3,(hb.cell (p:=⟨b,off+i,none⟩) (ltl e3 hB)).trans e4⟩
theorem Yh {l:Int} {s:Nat} (h:Yb l s<0):l<s:=by
 unfold Yb at h;split at h<;>omega
theorem Yu {l:Int} {s:Nat} (h:0≤Yb l s):(s:Int)≤l∧Yb l s=l-s:=by
 unfold Yb at *;split at h
 ·rw [if_pos (by assumption)];exact ⟨by assumption,rfl⟩
 ·omega
theorem bcell {W w1:World} (hb:Below W.1.size W w1):(∀ b o,b<W.1.size→w1.cell? ⟨b,o,none⟩=W.cell? ⟨b,o,none⟩)∧(∀ b o,b<W.1.size→w1.frozen? ⟨b,o,none⟩=W.frozen? ⟨b,o,none⟩):=
 ⟨fun b o h=>hb.cell (p:=⟨b,o,none⟩) h,fun b o h=>hb.frozen (p:=⟨b,o,none⟩) h⟩
theorem Zb (w:World) (o:Obj):Below w.1.size w (w.alloc o):=(br _ _).alloc (lrf _) o
theorem Kk {w w1:World} {c:Array Value} {t:TypeId} (hb:Below (w.alloc (.cells c t)).1.size (w.alloc (.cells c t)) w1) (i:Nat):w1.cell? ⟨w.1.size,i,none⟩=c[i]?:=
 (hb.cell (p:=⟨w.1.size,i,none⟩) (by simp)).trans (World.cell?_alloc_new w c t i)
theorem apK6 {P:Prop} (h:P:=by
  obtain ⟨b,off,e1,e2,e3,e4,e5⟩:=h i hi'
  exact ⟨b,off,e1,e2,e3,(hb.cell (p:=⟨b,off+i,none⟩) (ltl e3 hw) (by show b<_∨_≤b;omega)).trans e4,(hb.frozen (p:=⟨b,off+i,none⟩) (ltl e3 hw) (by show b<_∨_≤b;omega)).trans e5⟩):P:=h
theorem StrsOwn.fr {w w':World} {lo hi lo2 hi2:Nat} {ad:Option Addr} {n:Nat} {s:Nat→ByteArray} (h:StrsOwn w lo hi ad n s) (hb:Fr lo2 hi2 w w') (hw:hi≤w.1.size) (ho:hi≤lo2∨hi2≤lo):StrsOwn w' lo hi ad n s:=fun i hi'=>by
 exact apK6
theorem StrsOwn.isIn {w:World} {lo hi:Nat} {ad:Option Addr} {n:Nat} {s:Nat→ByteArray} (h:StrsOwn w lo hi ad n s):StrsIn w lo hi ad n s:=fun i hi'=>by
 obtain ⟨b,off,e1,e2,e3,e4,e5⟩:=h i hi'
 exact ⟨b,off,e1,e2,e3,e4⟩
theorem World.size_setCell (w:World) (a:Addr) (v:Value):(w.setCell a v).1.size=w.1.size:=by simp [World.setCell]
structure Room (w:World) (g m:Nat):Prop where
 has:∀ j,j<m→∃ u,w.cell? ⟨g,j,none⟩=some u
 free:∀ j,w.frozen? ⟨g,j,none⟩=false
 lt:g<w.1.size
theorem YM {w':World} {g n sz:Nat} {base:Nat} {e:TypeId} {xs:List Value}
  (ho:w'.ownsRow base e sz (.slice (some ⟨g,0,none⟩) n n) n xs):Room w' g (n*sz):=by
 refine ⟨fun j hj=>?_,fun j=>ho.frozenAt j,?_⟩
 ·rw [ho.cellAt j hj]
  have:j<xs.length:=by rw [ho.1];omega
  exact ⟨xs[j],by simp [this]⟩
 ·exact apK3
theorem Room.below {w w':World} {g m B:Nat} (h:Room w g m) (hb:Below B w w') (hg:g<B):Room w' g m:=by
 refine ⟨fun j hj=>?_,fun j=>(hb.frozen (p:=⟨g,j,none⟩) hg).trans (h.free j),ltl h.lt hb.size⟩
 obtain ⟨u,hu⟩:=h.has j hj
 exact ⟨u,(hb.cell (p:=⟨g,j,none⟩) hg).trans hu⟩
theorem ZB (b:Nat):∀ (vs:List Value) (o:Nat) (w:World),(w.setCells b o vs).1.size=w.1.size
 | [],_,_=>rfl
 | v::r,o,w=>by rw [World.setCells,ZB b r,World.size_setCell]
theorem Room.setCells {w:World} {g m o:Nat} (h:Room w g m) (vs:List Value) (ho:o+vs.length≤m):Room (w.setCells g o vs) g m:=by
 refine ⟨fun j hj=>?_,fun j=>by rw [World.frozen?_setCells];exact h.free j,by rw [ZB];exact h.lt⟩
 by_cases hj2:j<o∨o+vs.length≤j
 ·rw [World.cell?_setCells_out g vs o w _ (fun _ _=>hj2)]
  exact h.has j hj
 ·obtain ⟨i,rfl⟩:∃ i,j=o+i:=⟨j-o,by omega⟩
  have hi:i<vs.length:=by omega
  exact ⟨vs[i],World.cell?_setCells_in g vs o w (fun j hj=>by
   obtain ⟨u,hu⟩:=h.has (o+j) (by omega)
   rw [hu];rfl) i hi⟩
theorem Zx (b:Nat):∀ (vs:List Value) (o:Nat) (w:World),Fr b (b+1) w (w.setCells b o vs)
 | [],_,w=>Fr.refl _ _ w
 | v::r,o,w=>((Fr.refl b (b+1) w).setCell (p:=⟨b,o,none⟩) (lrf _) (Nat.lt_succ_self _) v).trans (Zx b r (o+1) _)
theorem Xh {r:Nat→Nat} {n:Nat} (h:∀ i,i<n→r i≤r (i+1)):∀ {i j:Nat},i≤j→j≤n→r i≤r j:=by
 intro i j hij hj
 induction j with
 | zero=>
   have:i=0:=by omega
   subst this;exact lrf _
 | succ j ih=>
   rcases Nat.lt_or_ge j i with h1|h1
   ·have:i=j+1:=by omega
    subst this;exact lrf _
   ·exact ltr (ih h1 (by omega)) (h j (by omega))
theorem three_cell {w w1:World} {c0 c1 c2:Array Value} {t0 t1 t2:TypeId} (hb:Below (((w.alloc (.cells c0 t0)).alloc (.cells c1 t1)).alloc (.cells c2 t2)).1.size (((w.alloc (.cells c0 t0)).alloc (.cells c1 t1)).alloc (.cells c2 t2)) w1) :
  (∀ i,w1.cell? ⟨w.1.size,i,none⟩=c0[i]?)∧(∀ i,w1.cell? ⟨w.1.size+1,i,none⟩=c1[i]?)∧(∀ i,w1.cell? ⟨w.1.size+1+1,i,none⟩=c2[i]?)∧(∀ i,w1.frozen? ⟨w.1.size+1,i,none⟩=false)∧(∀ i,w1.frozen? ⟨w.1.size+1+1,i,none⟩=false):=by
 refine ⟨fun i=>?_,fun i=>?_,fun i=>?_,fun i=>?_,fun i=>?_⟩
 ·rw [hb.cell (p:=⟨w.1.size,i,none⟩) (by simp;omega)]
  rw [World.cell?_alloc_past _ _ _ (by simp;try omega),World.cell?_alloc_past _ _ _ (by simp;try omega),World.cell?_alloc_at _ _ _ _ rfl]
 ·rw [hb.cell (p:=⟨w.1.size+1,i,none⟩) (by simp)]
  rw [World.cell?_alloc_past _ _ _ (by simp),World.cell?_alloc_at _ _ _ _ (by simp)]
 ·rw [hb.cell (p:=⟨w.1.size+1+1,i,none⟩) (by simp)]
  rw [World.cell?_alloc_at _ _ _ _ (by simp)]
 ·rw [hb.frozen (p:=⟨w.1.size+1,i,none⟩) (by simp)]
  rw [World.frozen?_alloc_past _ _ _ (by simp),World.frozen?_alloc_at _ _ _ _ (by simp)]
 ·rw [hb.frozen (p:=⟨w.1.size+1+1,i,none⟩) (by simp)]
  rw [World.frozen?_alloc_at _ _ _ _ (by simp)]
theorem Xt {w w1:World} {c0 c1:Array Value} {t0 t1:TypeId} (hb:Below ((w.alloc (.cells c0 t0)).alloc (.cells c1 t1)).1.size ((w.alloc (.cells c0 t0)).alloc (.cells c1 t1)) w1) :
  (∀ i,w1.cell? ⟨w.1.size,i,none⟩=c0[i]?)∧(∀ i,w1.cell? ⟨w.1.size+1,i,none⟩=c1[i]?)∧(∀ i,w1.frozen? ⟨w.1.size,i,none⟩=false)∧(∀ i,w1.frozen? ⟨w.1.size+1,i,none⟩=false):=by
 refine ⟨fun i=>?_,fun i=>?_,fun i=>?_,fun i=>?_⟩
 ·rw [hb.cell (p:=⟨w.1.size,i,none⟩) (by simp;omega)]
  rw [World.cell?_alloc_past _ _ _ (by simp),World.cell?_alloc_at _ _ _ _ rfl]
 ·rw [hb.cell (p:=⟨w.1.size+1,i,none⟩) (by simp)]
  rw [World.cell?_alloc_at _ _ _ _ (by simp)]
 ·rw [hb.frozen (p:=⟨w.1.size,i,none⟩) (by simp;omega)]
  rw [World.frozen?_alloc_past _ _ _ (by simp),World.frozen?_alloc_at _ _ _ _ rfl]
 ·rw [hb.frozen (p:=⟨w.1.size+1,i,none⟩) (by simp)]
  rw [World.frozen?_alloc_at _ _ _ _ (by simp)]
theorem StrsIn.mono {w:World} {lo hi lo2 hi2:Nat} {ad:Option Addr} {n:Nat} {s:Nat→ByteArray} (h:StrsIn w lo hi ad n s) (h1:lo2≤lo) (h2:hi≤hi2):StrsIn w lo2 hi2 ad n s:=fun i hi'=>by
 obtain ⟨b,off,e1,e2,e3,e4⟩:=h i hi'
 exact ⟨b,off,e1,by omega,by omega,e4⟩
theorem Yt (w:World) (q:Nat):Below w.1.size w (w.drewN q):=⟨rfl,rfl,rfl,lrf _,fun _ _=>rfl⟩
def inB (n lo hi:Int):Bool:=decide (lo≤n)&&decide (n≤hi)
theorem J6 {n lo hi:Int} (h:lo≤n∧n≤hi):inB n lo hi=true:=by simp [inB,h.1,h.2]
theorem Kx {n lo hi:Int} (h:n<lo∨hi<n):inB n lo hi=false:=by
 rcases h with h|h<;>simp [inB]<;>omega
theorem Yj {n lo hi:Int} (h:inB n lo hi=true):lo≤n∧n≤hi:=by simpa [inB] using h
theorem Zh {a b:Bool} (h:a=b):Ending.returned (.bool a)=.returned (.bool b):=by rw [h]
def YP (p:Nat→Bool):Nat→Bool|0=>true|k+1=>YP p k&&p k
theorem allTo_iff {p:Nat→Bool} : ∀ {n:Nat},YP p n=true↔∀ i,i<n→p i=true
 | 0=>⟨fun _ i h=>absurd h (nlz _),fun _=>rfl⟩
 | n+1=>by
  simp only [YP,Bool.and_eq_true,allTo_iff (n:=n)]
  exact ⟨fun h i hi=>by
    rcases Nat.lt_or_ge i n with h1|h1
    ·exact h.1 i h1
    ·have:i=n:=by omega
     subst this;exact h.2,fun h=>⟨fun i hi=>h i (by omega),h n (by omega)⟩⟩
theorem ZQ {p:Nat→Bool} {n i:Nat} (hi:i<n) (h:p i=false):YP p n=false:=by
 cases hc:YP p n with
 | false=>rfl
 | true=>rw [allTo_iff.1 hc i hi] at h;cases h
theorem ZI (n lo hi:Int) (w:World):Calls Tryz.prog 75 #[.int .i64 n,.int .i64 lo,.int .i64 hi] w fun e w'=>e=.returned (.bool (inB n lo hi))∧w'=w:=by
 by_cases h1:lo≤n
 ·by_cases h2:n≤hi
  ·have e:=J6 ⟨h1,h2⟩
   have HE:=hid e
   clear e
   go_enter Tryz.func75,Tryz.ntmps75
   go_wp2
   go_ret
   exact ⟨Zh HE.out.symm,rfl⟩
  ·have HE:=hid (Kx (n:=n) (lo:=lo) (hi:=hi) (Or.inr (by omega)))
   go_enter Tryz.func75,Tryz.ntmps75
   go_wp2
   go_ret
   exact ⟨Zh HE.out.symm,rfl⟩
 ·have HE:=hid (Kx (n:=n) (lo:=lo) (hi:=hi) (Or.inl (by omega)))
  go_enter Tryz.func75,Tryz.ntmps75
  go_wp2
  go_ret
  exact ⟨Zh HE.out.symm,rfl⟩
theorem Zu (n lo hi:Int) (w:World):Calls Tryz.prog 93 #[.int .i64 n,.int .i64 lo,.int .i64 hi] w fun e w'=>e=.returned (.bool (inB n lo hi))∧w'=w:=by
 by_cases h1:lo≤n
 ·by_cases h2:n≤hi
  ·have e:=J6 ⟨h1,h2⟩
   have HE:=hid e
   clear e
   go_enter Tryz.func93,Tryz.ntmps93
   go_wp2
   go_ret
   exact ⟨Zh HE.out.symm,rfl⟩
  ·have HE:=hid (Kx (n:=n) (lo:=lo) (hi:=hi) (Or.inr (by omega)))
   go_enter Tryz.func93,Tryz.ntmps93
   go_wp2
   go_ret
   exact ⟨Zh HE.out.symm,rfl⟩
 ·have HE:=hid (Kx (n:=n) (lo:=lo) (hi:=hi) (Or.inl (by omega)))
  go_enter Tryz.func93,Tryz.ntmps93
  go_wp2
  go_ret
  exact ⟨Zh HE.out.symm,rfl⟩
theorem apK0 {P:Prop} (h:P:=by
  go_wp2
  go_loopw [5] (fun i wr=>∃ k:Nat,k≤n∧i=.int .i64 k∧∃ q,wr=w.drewN q) (fun i _=>n-(intOf i).toNat)
  case atStart=>exact ⟨0,zle _,rfl,0,rfl⟩
  case round=>
   obtain ⟨k,hk,rfl,q,rfl⟩:=hrel
   by_cases hkn:k<n
   ·obtain ⟨b,off,rfl,hlo,hbh,hcx⟩:=hc k hkn
    obtain ⟨b2,off2,rfl,hlo2,hbh2,hcx2⟩:=hc2 k hkn
    clear hc hc2
    go_wp2
    go_quiet (fail)
    go_wp2
    go_roundw
    case rel=>exact ⟨k+1,by omega,by go_num,_,rfl⟩
    case measure=>simp [intOf];omega
   ·have:k=n:=by omega
    subst this
    clear hc hc2
    go_wp2
    go_ret
    exact ⟨rfl,q,rfl⟩):P:=h
theorem eqStrs_any (n:Nat) (s:Nat→ByteArray) (ad ad2:Option Addr) (cap cap2:Nat) (w:World) (lo hi lo2 hi2:Nat) (hl:(n:Int)≤140737488355328)
  (hc:StrsIn w lo hi ad n s) (hc2:StrsIn w lo2 hi2 ad2 n s) :
  Calls Tryz.prog 51 #[.slice ad n cap,.slice ad2 n cap2] w fun e w'=>e=.returned (.bool true)∧∃ q,w'=w.drewN q:=by
 go_enter Tryz.func51,Tryz.ntmps51
 exact apK0
def Holds (W:World) (B:Nat) (c:Array Value):Prop:=∀ i,W.cell? ⟨B,i,none⟩=c[i]?
theorem Holds.fr {W W':World} {B lo hi:Nat} {c:Array Value} (h:Holds W B c) (hb:Fr lo hi W W') (hB:B<W.1.size) (ho:B<lo∨hi≤B):Holds W' B c:=fun i=>(hb.cell (p:=⟨B,i,none⟩) hB ho).trans (h i)
theorem Holds.below {W W':World} {B n:Nat} {c:Array Value} (h:Holds W B c) (hb:Below n W W') (hB:B<n):Holds W' B c:=fun i=>(hb.cell (p:=⟨B,i,none⟩) hB).trans (h i)
theorem Zt (w:World) (c:Array Value) (t:TypeId):Holds (w.alloc (.cells c t)) w.1.size c:=fun i=>World.cell?_alloc_new w c t i
structure Sl where
 bal:Int
 text:ByteArray
structure SlCells (w:World) (b o:Nat) (x:Sl):Prop where
 c0:w.cell? ⟨b,o,none⟩=some (.int .i64 x.bal)
 c1:w.cell? ⟨b,o+1,none⟩=some (.string x.text)
def SlsIn (w:World) (lo hi:Nat) (ad:Option Addr) (n:Nat) (x:Nat→Sl):Prop:=
 ∀ i,i<n→∃ b off,ad=some ⟨b,off,none⟩∧lo≤b∧b<hi∧SlCells w b (off+i*2) (x i)
structure Ju (x:Sl):Prop where
 t:(x.text.size:Int)≤140737488355328
def szSl (c:Sl):Nat:=c.text.size
abbrev slV (x:Sl):Value:=.agg #[.int .i64 x.bal,.string x.text]
theorem SlCells.below {w w':World} {B b o:Nat} {x:Sl} (h:SlCells w b o x) (hb:Below B w w') (hB:b<B):SlCells w' b o x:=
 ⟨(hb.cell (p:=⟨b,o,none⟩) hB).trans h.c0,(hb.cell (p:=⟨b,o+1,none⟩) hB).trans h.c1⟩
theorem SlsIn.below {w w':World} {B lo hi:Nat} {ad:Option Addr} {n:Nat} {x:Nat→Sl} (h:SlsIn w lo hi ad n x) (hb:Below B w w') (hB:hi≤B):SlsIn w' lo hi ad n x:=fun i hi'=>by
 obtain ⟨b,off,e1,e2,e3,e4⟩:=h i hi'
 exact ⟨b,off,e1,e2,e3,e4.below hb (by omega)⟩
theorem SlsIn.mono {w:World} {lo hi lo2 hi2:Nat} {ad:Option Addr} {n:Nat} {x:Nat→Sl} (h:SlsIn w lo hi ad n x) (h1:lo2≤lo) (h2:hi≤hi2):SlsIn w lo2 hi2 ad n x:=fun i hi'=>by
 obtain ⟨b,off,e1,e2,e3,e4⟩:=h i hi'
 exact ⟨b,off,e1,by omega,by omega,e4⟩
theorem SlsIn.drewN {w:World} {lo hi:Nat} {ad:Option Addr} {n:Nat} {x:Nat→Sl} (h:SlsIn w lo hi ad n x) (q:Nat):SlsIn (w.drewN q) lo hi ad n x:=h.below (B:=hi) ⟨rfl,rfl,rfl,lrf _,fun _ _=>rfl⟩ (lrf _)
theorem szSl_any (x:Sl) (left:Int) (w:World) (h0:0≤left) (h1:left≤1048576) (hf:Ju x) :
  Calls Tryz.prog 73 #[slV x,.int .i64 left] w fun e w'=>e=.returned (.int .i64 (Yb left (szSl x)))∧Below w.1.size w w':=by
 obtain ⟨f1⟩:=hf
 unfold szSl
 go_enter Tryz.func73,Tryz.ntmps73
 go_wp2
 ·go_ret
  exact ⟨ZE (ZH (by omega)).symm,(br _ _).alloc (lrf _) _⟩
 ·go_ret
  exact ⟨ZE (by rw [YK (by omega)]),(br _ _).alloc (lrf _) _⟩
def YJ (n:Nat) (x:Nat→Sl):Nat:=n+Zz (fun i=>szSl (x i)) n
theorem apK1 {P:Prop} (h:P:=by
  have hs:=HS.out
  obtain ⟨g1,g2⟩:=Yu (by assumption)
  go_roundw
  case rel=>exact ⟨k+1,by omega,by go_num,by rw [HQ.out,g2];apply congrArg;omega,by rw [HQ.out];omega,hb.trans (hb1.mono hb.size)⟩
  case measure=>simp [intOf];omega):P:=h
theorem Kq (n:Nat) (x:Nat→Sl) (ad:Option Addr) (cap:Nat) (left:Int) (w:World) (lo hi:Nat) (hhi:hi≤w.1.size) (hl:(n:Int)≤8796093022208) (h0:0≤left) (h1:left≤1048576) (hf:∀ i,i<n→Ju (x i))
  (hc:SlsIn w lo hi ad n x) :
  Calls Tryz.prog 28 #[.slice ad n cap,.int .i64 left] w fun e w'=>e=.returned (.int .i64 (Yb left (YJ n x)))∧Below w.1.size w w':=by
 by_cases hlt:left-n<0
 ·go_enter Tryz.func28,Tryz.ntmps28
  go_wp2
  go_ret
  exact ⟨ZE (ZH (by unfold YJ;omega)).symm,br _ _⟩
 ·go_enter Tryz.func28,Tryz.ntmps28
  go_wp2
  go_loopw [1,5] (fun t i wr=>∃ k:Nat,k≤n∧i=.int .i64 k∧t=.int .i64 (left-n-(Zz (fun i=>szSl (x i)) k:Nat))∧0≤left-n-(Zz (fun i=>szSl (x i)) k:Nat)∧Below w.1.size w wr) (fun _ i _=>n-(intOf i).toNat)
  case atStart=>exact ⟨0,zle _,rfl,by simp [Zz],by simp [Zz];omega,br _ _⟩
  case round=>
   obtain ⟨k,hk,rfl,rfl,hnn,hb⟩:=hrel
   have hst:Zz (fun i=>szSl (x i)) (k+1)=Zz (fun i=>szSl (x i)) k+szSl (x k):=rfl
   have hmo:k<n→Zz (fun i=>szSl (x i)) (k+1)≤Zz (fun i=>szSl (x i)) n:=fun h=>XQ _ h
   generalize hq:Zz (fun i=>szSl (x i)) k=q at *
   generalize hq1:Zz (fun i=>szSl (x i)) (k+1)=q1 at *
   by_cases hkn:k<n
   ·obtain ⟨b,off,rfl,hlo,hbh,hcx⟩:=hc k hkn
    have hmo:=hmo hkn
    have hfk:=hf k hkn
    have HS:Hid (q1=q+szSl (x k)):=hst
    have HQ:Hid (Zz (fun i=>szSl (x i)) (k+1)=q1):=hq1
    clear hst hq hq1 hc hf
    have hcell:∀ j,wr.cell? ⟨b,off+k*2+j,none⟩=w.cell? ⟨b,off+k*2+j,none⟩:=fun j=>hb.cell (p:=⟨b,off+k*2+j,none⟩) (by show b<_;omega)
    have hcell0:wr.cell? ⟨b,off+k*2,none⟩=w.cell? ⟨b,off+k*2,none⟩:=hb.cell (p:=⟨b,off+k*2,none⟩) (by show b<_;omega)
    obtain ⟨d0,d1⟩:=hcx
    rw [←hcell] at d1
    rw [←hcell0] at d0
    clear hcell hcell0
    generalize x k=y at *
    clear hmo
    rename_i hmo
    go_wp2_with (go_at_call 73;refine (szSl_any y _ wr (by omega) (by omega) hfk).mono ?_;rintro e w1 ⟨rfl,hb1⟩)
    ·go_ret
     refine ⟨ZE (ZH ?_).symm,hb.trans (hb1.mono hb.size)⟩
     have:=HS.out
     have:=Yh (by assumption)
     have:=hmo hkn
     unfold YJ;omega
    ·exact apK1
   ·have:k=n:=by omega
    subst this
    clear hc hf hst hmo hq1
    have HQ:Hid (Zz (fun i=>szSl (x i)) k=q):=hq
    clear hq
    go_wp2
    go_ret
    refine ⟨ZE ?_,hb⟩
    have:=HQ.out
    rw [YK (by unfold YJ;omega)]
    unfold YJ;omega
theorem Tryz.info109:(Tryz.prog.info? 109).map (fun i=>(i.zero,i.size,i.bytes))=some (some (.agg #[.int .i64 0,.string ByteArray.empty]),2,24):=by kernel_rfl
theorem toSl_any (x:Sl) (w:World) :
  Calls Tryz.prog 87 #[slV x] w fun e w'=>e=.returned (slV x)∧Below w.1.size w w':=by
 go_enter Tryz.func87,Tryz.ntmps87
 go_wp2
 refine bodyPost_ret (v:=slV x) (by simp [results,Tryz.results87,go_sem]) rfl ⟨rfl,?_⟩
 exact ((((br _ _).alloc (lrf _) _).alloc (by simp) _).alloc (by simp;omega) _)
structure SlsOwnAt (w:World) (g n m:Nat) (x:Nat→Sl):Prop where
 room:Room w g (m*2)
 at_:∀ i,i<n→SlCells w g (i*2) (x i)
theorem SlsOwnAt.step {wr w1:World} {g k n:Nat} {x:Nat→Sl} (h:SlsOwnAt wr g k n x) (hk:k<n) (hb:Below wr.1.size wr w1) :
  SlsOwnAt (w1.setCells g (k*2) [.int .i64 (x k).bal,.string (x k).text]) g (k+1) n x:=by
 have hg:=h.room.lt
 have hR:=h.room.below hb hg
 generalize hvs:[Value.int .i64 (x k).bal,.string (x k).text]=vs
 have hlen:vs.length=2:=by rw [←hvs];rfl
 have hin:=World.cell?_setCells_in g vs (k*2) w1 (fun j hj=>by
  obtain ⟨u,hu⟩:=hR.has (k*2+j) (by omega)
  rw [hu];rfl)
 refine ⟨hR.setCells vs (by omega),fun i hi=>?_⟩
 by_cases e:i<k
 ·have c:=(h.at_ i e).below hb hg
  have ee:∀ j,j<2→(w1.setCells g (k*2) vs).cell? ⟨g,i*2+j,none⟩=w1.cell? ⟨g,i*2+j,none⟩:=fun j hj=>World.cell?_setCells_out g vs (k*2) w1 _ (fun _ _=>Or.inl (by show i*2+j<k*2;omega))
  exact ⟨(ee 0 (by omega)).trans c.c0,(ee 1 (by omega)).trans c.c1⟩
 ·have:i=k:=by omega
  subst this
  have f:=fun j (hj:j<2)=>hin j (by omega)
  have f0:=f 0 (by omega);have f1:=f 1 (by omega)
  subst hvs
  exact ⟨f0,f1⟩
theorem Ko (n:Nat) (x:Nat→Sl) (ad:Option Addr) (cap:Nat) (w:World) (lo hi:Nat) (hhi:hi≤w.1.size) (hl:(n:Int)≤1099511627776) (hc:SlsIn w lo hi ad n x) :
  Calls Tryz.prog 45 #[.slice ad n cap] w fun e w'=>e=.returned (.slice (some ⟨w.1.size,0,none⟩) n n)∧SlsOwnAt w' w.1.size n n x∧Below w.1.size w w':=by
 obtain ⟨i0,hi0,hz0,hz1,hz2⟩:=info_parts Tryz.info109
 go_enter Tryz.func45,Tryz.ntmps45
 go_wp2_with (first
  | (at_make;refine wpList_make_full _ rfl _ _ 32 rfl w.1.size 109 i0 _ 2 Tryz.underlying32 hi0 hz0 hz1 .i64 .i64 _ _ n rfl rfl (by omega) (by omega) (by rw [hz2];omega) (by unfold maxLen;omega) (by omega) ?_;intro w1 hown1 hgrow1)
  )
 have r1:SlsOwnAt w1 w.1.size 0 n x:=⟨YM hown1,fun _ h=>absurd h (nlz _)⟩
 have hb1:Below w.1.size w w1:=(br _ _).grown hgrow1 (lrf _) (by simp)
 clear hown1 hgrow1 hi0 hz0 hz1 hz2
 go_loopw [4] (fun i wr=>∃ k:Nat,k≤n∧i=.int .i64 k∧Below w.1.size w wr∧SlsOwnAt wr w.1.size k n x) (fun i _=>n-(intOf i).toNat)
 case atStart=>exact ⟨0,zle _,rfl,hb1,r1⟩
 case round=>
  obtain ⟨k,hk,rfl,hb,ho⟩:=hrel
  clear r1 hb1
  by_cases hkn:k<n
  ·obtain ⟨b,off,rfl,hlo,hbh,hcx⟩:=hc k hkn
   obtain ⟨d0,d1⟩:=hcx.below hb (by omega)
   clear hc hcx
   have HO:=hid ho
   have hrm:=ho.room
   clear ho
   go_wp2_with (fail)
   refine (toSl_any (x k) wr).mono ?_
   rintro e w1 ⟨rfl,hb1⟩
   have R:=HO.out.step hkn hb1
   have HR:=hid R
   have HB:=hid ((hb.trans (hb1.mono hb.size)).trans ((Zx w.1.size [Value.int .i64 (x k).bal,.string (x k).text] (k*2) w1).below (lrf _) (hb.trans (hb1.mono hb.size)).size))
   have hrm1:=hrm.below hb1 hrm.lt
   obtain ⟨_,q0⟩:=hrm1.has (k*2) (by omega)
   obtain ⟨_,q1⟩:=hrm1.has (k*2+1) (by omega)
   have qf:=hrm1.free
   clear hrm hrm1 R HO d0 d1
   go_wp2
   go_roundw
   case rel=>exact ⟨k+1,by omega,by go_num,HB.out,HR.out⟩
   case measure=>simp [intOf];omega
  ·have:k=n:=by omega
   subst this
   have HO:=hid ho
   clear hc ho
   go_wp2
   go_ret
   exact ⟨rfl,HO.out,hb⟩
theorem SlsOwnAt.fr {w w':World} {g n m lo2 hi2:Nat} {x:Nat→Sl} (h:SlsOwnAt w g n m x) (hb:Fr lo2 hi2 w w') (ho:g<lo2∨hi2≤g):SlsOwnAt w' g n m x:=by
 have hc:∀ j,w'.cell? ⟨g,j,none⟩=w.cell? ⟨g,j,none⟩:=fun j=>hb.cell (p:=⟨g,j,none⟩) h.room.lt ho
 refine ⟨⟨fun j hj=>?_,fun j=>(hb.frozen (p:=⟨g,j,none⟩) h.room.lt ho).trans (h.room.free j),ltl h.room.lt hb.size⟩,fun i hi'=>?_⟩
 ·obtain ⟨u,hu⟩:=h.room.has j hj;exact ⟨u,(hc j).trans hu⟩
 ·have c:=h.at_ i hi'
  exact ⟨(hc _).trans c.c0,(hc _).trans c.c1⟩
theorem SlsOwnAt.isIn {w:World} {g n:Nat} {x:Nat→Sl} (h:SlsOwnAt w g n n x) {lo hi2:Nat} (hlo:lo≤g) (hh:g<hi2):SlsIn w lo hi2 (some ⟨g,0,none⟩) n x:=fun i hi'=>
 ⟨g,0,rfl,hlo,hh,by rw [Nat.zero_add];exact h.at_ i hi'⟩
def SlsOwn (w:World) (lo hi:Nat) (ad:Option Addr) (n:Nat) (x:Nat→Sl):Prop:=∃ g,ad=some ⟨g,0,none⟩∧lo≤g∧g<hi∧SlsOwnAt w g n n x
theorem SlsOwn.fr {w w':World} {lo hi lo2 hi2:Nat} {ad:Option Addr} {n:Nat} {x:Nat→Sl} (h:SlsOwn w lo hi ad n x) (hb:Fr lo2 hi2 w w') (ho:hi≤lo2∨hi2≤lo):SlsOwn w' lo hi ad n x:=by
 obtain ⟨g,e1,e2,e3,e4⟩:=h
 exact ⟨g,e1,e2,e3,e4.fr hb (by omega)⟩
theorem SlsOwn.mono {w:World} {lo hi lo2 hi2:Nat} {ad:Option Addr} {n:Nat} {x:Nat→Sl} (h:SlsOwn w lo hi ad n x) (h1:lo2≤lo) (h2:hi≤hi2):SlsOwn w lo2 hi2 ad n x:=by
 obtain ⟨g,e1,e2,e3,e4⟩:=h
 exact ⟨g,e1,by omega,by omega,e4⟩
theorem SlsOwn.isIn {w:World} {lo hi:Nat} {ad:Option Addr} {n:Nat} {x:Nat→Sl} (h:SlsOwn w lo hi ad n x):SlsIn w lo hi ad n x:=by
 obtain ⟨g,rfl,e2,e3,e4⟩:=h
 exact e4.isIn e2 e3
theorem eqSl_any (x:Sl) (w:World) :
  Calls Tryz.prog 113 #[slV x,slV x] w fun e w'=>e=.returned (.bool true)∧Below w.1.size w w':=by
 go_enter Tryz.func113,Tryz.ntmps113
 go_wp2
 go_ret
 exact ⟨rfl,((Zb _ _).alloc (by simp) _)⟩
theorem apK9 {P:Prop} (h:P:=by
  go_roundw
  case rel=>exact ⟨k+1,by omega,by go_num,hb.drew.trans (hb1.mono hb.size)⟩
  case measure=>simp [intOf];omega):P:=h
theorem Ky (n:Nat) (x:Nat→Sl) (ad ad2:Option Addr) (cap cap2:Nat) (w:World) (lo hi lo2 hi2:Nat) (hh:hi≤w.1.size) (hh2:hi2≤w.1.size) (hl:(n:Int)≤140737488355328)
  (hc:SlsIn w lo hi ad n x) (hc2:SlsIn w lo2 hi2 ad2 n x) :
  Calls Tryz.prog 53 #[.slice ad n cap,.slice ad2 n cap2] w fun e w'=>e=.returned (.bool true)∧Below w.1.size w w':=by
 go_enter Tryz.func53,Tryz.ntmps53
 go_wp2
 go_loopw [5] (fun i wr=>∃ k:Nat,k≤n∧i=.int .i64 k∧Below w.1.size w wr) (fun i _=>n-(intOf i).toNat)
 case atStart=>exact ⟨0,zle _,rfl,br _ _⟩
 case round=>
  obtain ⟨k,hk,rfl,hb⟩:=hrel
  by_cases hkn:k<n
  ·obtain ⟨b,off,rfl,hlo,hbh,hcx⟩:=hc k hkn
   obtain ⟨b2,off2,rfl,hlo2,hbh2,hcx2⟩:=hc2 k hkn
   obtain ⟨d0,d1⟩:=hcx.below hb (by omega)
   obtain ⟨e0,e1⟩:=hcx2.below hb (by omega)
   clear hc hc2 hcx hcx2
   generalize x k=y at *
   go_wp2
   go_region_with (go_at_call 113;refine (eqSl_any y _).mono ?_;rintro e w1 ⟨rfl,hb1⟩)
   all_goals
    go_wp2
    exact apK9
  ·have:k=n:=by omega
   subst this
   clear hc hc2
   go_wp2
   go_ret
   exact ⟨rfl,hb⟩
def slB (x:Sl):Bool:=inB x.bal 0 1000000&&(decide ((x.text.size:Int)≤100)&&(decide (0<x.bal)||x.text.toList.isEmpty))
theorem Kp (x:Sl) (w:World) :
  Calls Tryz.prog 160 #[slV x] w fun e w'=>e=.returned (.bool (decide (0<x.bal)))∧Below w.1.size w w':=by
 go_enter Tryz.func160,Tryz.ntmps160
 go_wp2
 go_ret
 exact ⟨by simp,Zb _ _⟩
theorem apK2 {P:Prop} (h:P:=by
  go_enter Tryz.func136,Tryz.ntmps136
  go_wp2_with (first|(go_at_call 93;refine (Zu _ _ _ _).mono ?_;rintro e w1 ⟨rfl,rfl⟩;rw [h1])|(go_at_call 160;refine (Kp x _).mono ?_;rintro e w1 ⟨rfl,hb1⟩;rw [h2];have k1:=Kk hb1 1;simp only [List.getElem?_toArray,List.getElem?_cons_succ,List.getElem?_cons_zero] at k1))
  go_ret
  exact ⟨Zh (by rw [HB.out];simp),(Zb _ _).trans (hb1.mono (by simp))⟩):P:=h
theorem apK10 {P:Prop} (h:P:=by
  go_enter Tryz.func136,Tryz.ntmps136
  go_wp2_with (first|(go_at_call 93;refine (Zu _ _ _ _).mono ?_;rintro e w1 ⟨rfl,rfl⟩;rw [h1]))
  go_ret
  exact ⟨Zh HB.out.symm,Zb _ _⟩):P:=h
theorem Uc (x:Sl) (w:World) (hf:Ju x) :
  Calls Tryz.prog 136 #[slV x] w fun e w'=>e=.returned (.bool (slB x))∧Below w.1.size w w':=by
 obtain ⟨f1⟩:=hf
 obtain ⟨b1,h1⟩:∃ b,inB x.bal 0 1000000=b:=⟨_,rfl⟩
 obtain ⟨b2,h2⟩:∃ b,decide (0<x.bal)=b:=⟨_,rfl⟩
 obtain ⟨b3,h3⟩:∃ b,decide ((x.text.size:Int)≤100)=b:=⟨_,rfl⟩
 have HB:=hid (show slB x=(b1&&(b3&&(b2||x.text.toList.isEmpty))) by rw [←h1,←h2,←h3];rfl)
 cases b1
 ·exact apK10
 ·cases b3
  ·have h3':=of_decide_eq_false h3
   exact apK10
  ·have h3':=of_decide_eq_true h3
   cases b2
   ·exact apK2
   ·exact apK2
def slsB (n:Nat) (x:Nat→Sl):Bool:=decide (n≤60)&&YP (fun i=>slB (x i)) n
theorem slsB_no {n k:Nat} {x:Nat→Sl} (hk:k<n) (h:slB (x k)=false):slsB n x=false:=by unfold slsB;rw [ZQ (p:=fun i=>slB (x i)) hk h];simp
theorem slsB_yes {n:Nat} {x:Nat→Sl} (hn:n≤60) (h:∀ i,i<n→slB (x i)=true):slsB n x=true:=by unfold slsB;rw [allTo_iff.2 h];simp [hn]
theorem XA (n:Nat) (x:Nat→Sl) (ad:Option Addr) (cap:Nat) (w:World) (lo hi:Nat) (hhi:hi≤w.1.size) (hl:(n:Int)≤8796093022208) (hf:∀ i,i<n→Ju (x i)) (hc:SlsIn w lo hi ad n x) :
  Calls Tryz.prog 95 #[.slice ad n cap] w fun e w'=>e=.returned (.bool (slsB n x))∧Below w.1.size w w':=by
 by_cases hn:n≤60
 ·go_enter Tryz.func95,Tryz.ntmps95
  go_wp2
  go_loopw [10] (fun i wr=>∃ k:Nat,k≤n∧i=.int .i64 k∧Below w.1.size w wr∧Hid (∀ j,j<k→slB (x j)=true)) (fun i _=>n-(intOf i).toNat)
  case atStart=>exact ⟨0,zle _,rfl,br _ _,fun j hj=>absurd hj (nlz _)⟩
  case round=>
   obtain ⟨k,hk,rfl,hb,hall⟩:=hrel
   by_cases hkn:k<n
   ·obtain ⟨b,off,rfl,hlo,hbh,hcx⟩:=hc k hkn
    obtain ⟨d0,d1⟩:=hcx.below hb (by omega)
    have hfk:=hf k hkn
    clear hc hf hcx
    cases hs:slB (x k)
    ·have HE:=hid (slsB_no hkn hs)
     go_wp2_with (go_at_call 136;refine (Uc (x k) _ hfk).mono ?_;rintro e w1 ⟨rfl,hb1⟩;rw [hs])
     go_ret
     exact ⟨Zh HE.out.symm,(hb.alloc hb.size _).trans (hb1.mono (by simp;have:=hb.size;omega))⟩
    ·have HE:=hid hs
     go_wp2_with (go_at_call 136;refine (Uc (x k) _ hfk).mono ?_;rintro e w1 ⟨rfl,hb1⟩;rw [hs])
     go_roundw
     case rel=>exact ⟨k+1,by omega,by go_num,(hb.alloc hb.size _).trans (hb1.mono (by simp;have:=hb.size;omega)),fun j hj=>by
      by_cases e:j=k
      ·rw [e];exact HE.out
      ·exact hall.out j (by omega)⟩
     case measure=>simp [intOf];omega
   ·have:k=n:=by omega
    subst this
    have HE:=hid (slsB_yes hn hall.out)
    clear hc hf
    go_wp2
    go_ret
    exact ⟨Zh HE.out.symm,hb⟩
 ·have HE:=hid (show slsB n x=false by simp [slsB,hn])
  go_enter Tryz.func95,Tryz.ntmps95
  go_wp2
  go_ret
  exact ⟨Zh HE.out.symm,br _ _⟩
theorem XS (n:Nat) (x:Nat→Sl) (ad:Option Addr) (cap:Nat) (w:World) (lo hi:Nat) (hhi:hi≤w.1.size) (hl:(n:Int)≤8796093022208) (hf:∀ i,i<n→Ju (x i)) (hc:SlsIn w lo hi ad n x) :
  Calls Tryz.prog 79 #[.slice ad n cap] w fun e w'=>e=.returned (.bool (slsB n x))∧Below w.1.size w w':=by
 by_cases hn:n≤60
 ·go_enter Tryz.func79,Tryz.ntmps79
  go_wp2
  go_loopw [3] (fun i wr=>∃ k:Nat,k≤n∧i=.int .i64 k∧wr=w∧Hid (∀ j,j<k→slB (x j)=true)) (fun i _=>n-(intOf i).toNat)
  case atStart=>exact ⟨0,zle _,rfl,rfl,fun j hj=>absurd hj (nlz _)⟩
  case round=>
   obtain ⟨k,hk,rfl,rfl,hall⟩:=hrel
   by_cases hkn:k<n
   ·obtain ⟨b,off,rfl,hlo,hbh,hcx⟩:=hc k hkn
    obtain ⟨d0,d1⟩:=hcx
    obtain ⟨f1⟩:=hf k hkn
    clear hc hf
    have HN:Hid (slB (x k)=false→slsB n x=false):=hid fun h=>slsB_no hkn h
    generalize hy:x k=y at *
    obtain ⟨b1,h1⟩:∃ b,inB y.bal 0 1000000=b:=⟨_,rfl⟩
    have HB:=hid (show slB y=(b1&&(decide ((y.text.size:Int)≤100)&&(decide (0<y.bal)||y.text.toList.isEmpty))) by rw [←h1];rfl)
    have HY:=hid hy
    clear hy
    cases b1
    ·go_wp2_with (go_at_call 75;refine (ZI _ _ _ _).mono ?_;rintro e w1 ⟨rfl,rfl⟩;rw [h1])
     go_ret
     exact ⟨Zh (HN.out (by rw [HB.out];rfl)).symm,br _ _⟩
    ·have h1':=Yj h1
     by_cases h2:(y.text.size:Int)≤100
     ·by_cases h3:y.bal≤0
      ·cases h4:y.text.toList.isEmpty
       ·go_wp2_with (go_at_call 75;refine (ZI _ _ _ _).mono ?_;rintro e w1 ⟨rfl,rfl⟩;rw [h1])
        go_ret
        exact ⟨Zh (HN.out (by rw [HB.out];simp [h2,h4];omega)).symm,br _ _⟩
       ·go_wp2_with (go_at_call 75;refine (ZI _ _ _ _).mono ?_;rintro e w1 ⟨rfl,rfl⟩;rw [h1])
        go_roundw
        case rel=>exact ⟨k+1,by omega,by go_num,by first|rfl|trivial,fun j hj=>by
         by_cases e:j=k
         ·rw [e,HY.out,HB.out];simp [h2,h4]
         ·exact hall.out j (by omega)⟩
        case measure=>simp [intOf];omega
      ·go_wp2_with (go_at_call 75;refine (ZI _ _ _ _).mono ?_;rintro e w1 ⟨rfl,rfl⟩;rw [h1])
       go_roundw
       case rel=>exact ⟨k+1,by omega,by go_num,by first|rfl|trivial,fun j hj=>by
        by_cases e:j=k
        ·rw [e,HY.out,HB.out];simp [h2,show 0<y.bal by omega]
        ·exact hall.out j (by omega)⟩
       case measure=>simp [intOf];omega
     ·go_wp2_with (go_at_call 75;refine (ZI _ _ _ _).mono ?_;rintro e w1 ⟨rfl,rfl⟩;rw [h1])
      go_ret
      exact ⟨Zh (HN.out (by rw [HB.out,decide_eq_false (show ¬((y.text.size:Int)≤100) by omega)];rfl)).symm,br _ _⟩
   ·have:k=n:=by omega
    subst this
    have HE:=hid (slsB_yes hn hall.out)
    clear hc hf
    go_wp2
    go_ret
    exact ⟨Zh HE.out.symm,br _ _⟩
 ·have HE:=hid (show slsB n x=false by simp [slsB,hn])
  go_enter Tryz.func79,Tryz.ntmps79
  go_wp2
  go_ret
  exact ⟨Zh HE.out.symm,br _ _⟩
structure Dk where
 pr:Int
 kn:Int
 n:Nat
 s:Nat→Sl
def JP (d:Dk):Bool:=YP (fun i=>decide ((d.s i).bal≤d.pr)) d.n
def XF (s:Nat→Sl) (k:Nat):Bool:=YP (fun i=>decide (0<(s i).bal)) k
def dkB (d:Dk):Bool:=inB d.pr 0 1000000&&(slsB d.n d.s&&(JP d&&(inB d.kn 0 d.n&&XF d.s d.kn.toNat)))
abbrev dkV (d:Dk) (ad:Option Addr) (cap:Nat):Value:=.agg #[.int .i64 d.pr,.int .i64 d.kn,.slice ad d.n cap]
structure Uu (d:Dk):Prop where
 n:(d.n:Int)≤8796093022208
 s:∀ i,i<d.n→Ju (d.s i)
theorem held_any (d:Dk) (ad:Option Addr) (cap:Nat) (w:World) (lo hi:Nat) (hhi:hi≤w.1.size) (hf:Uu d) (hc:SlsIn w lo hi ad d.n d.s) :
  Calls Tryz.prog 132 #[dkV d ad cap] w fun e w'=>e=.returned (.bool (JP d))∧Below w.1.size w w':=by
 obtain ⟨f1,f2⟩:=hf
 go_enter Tryz.func132,Tryz.ntmps132
 go_wp2
 have hB0:=Zb w (.cells #[.int .i64 d.pr,.int .i64 d.kn,.slice ad d.n cap] 34)
 have H0:∀ i,(w.alloc (.cells #[.int .i64 d.pr,.int .i64 d.kn,.slice ad d.n cap] 34)).cell? ⟨w.1.size,i,none⟩=(#[Value.int .i64 d.pr,.int .i64 d.kn,.slice ad d.n cap])[i]?:=fun i=>World.cell?_alloc_new w _ _ i
 have hz0:w.1.size<(w.alloc (.cells #[.int .i64 d.pr,.int .i64 d.kn,.slice ad d.n cap] 34)).1.size:=by simp
 generalize w.alloc (.cells #[.int .i64 d.pr,.int .i64 d.kn,.slice ad d.n cap] 34)=W at *
 go_loopw [8] (fun i wr=>∃ k:Nat,k≤d.n∧i=.int .i64 k∧Below W.1.size W wr∧Hid (∀ j,j<k→decide ((d.s j).bal≤d.pr)=true)) (fun i _=>d.n-(intOf i).toNat)
 case atStart=>exact ⟨0,zle _,rfl,br _ _,fun j hj=>absurd hj (nlz _)⟩
 case round=>
  obtain ⟨k,hk,rfl,hb,hall⟩:=hrel
  have HB:=hid (hB0.trans (hb.mono hB0.size))
  by_cases hkn:k<d.n
  ·obtain ⟨b,off,rfl,hlo,hbh,hcx⟩:=hc k hkn
   obtain ⟨d0,d1⟩:=hcx.below HB.out (by omega)
   have p0:=(hb.cell (p:=⟨w.1.size,0,none⟩) hz0).trans (H0 0)
   simp only [List.getElem?_toArray,List.getElem?_cons_zero] at p0
   have hbw:b<wr.1.size:=by have:=HB.out.size;omega
   have hww:w.1.size<wr.1.size:=by have:=hb.size;omega
   clear hc f2 hcx H0
   by_cases hs:(d.s k).bal≤d.pr
   ·have HE:=hid hs
    go_wp2
    go_roundw
    case rel=>exact ⟨k+1,by omega,by go_num,hb.alloc hb.size _,fun j hj=>by
      by_cases e:j=k
      ·rw [e];exact decide_eq_true HE.out
      ·exact hall.out j (by omega)⟩
    case measure=>simp [intOf];omega
   ·have HE:=hid (show JP d=false from ZQ (p:=fun i=>decide ((d.s i).bal≤d.pr)) hkn (decide_eq_false hs))
    go_wp2
    go_ret
    exact ⟨Zh HE.out.symm,HB.out.alloc HB.out.size _⟩
  ·have:k=d.n:=by omega
   have HE:=hid (show JP d=true from allTo_iff.2 (fun i hi=>hall.out i (by omega)))
   clear hc f2 H0
   go_wp2
   go_ret
   exact ⟨Zh HE.out.symm,HB.out⟩
theorem allTaken_any (n:Nat) (x:Nat→Sl) (ad:Option Addr) (cap:Nat) (w:World) (lo hi:Nat) (hhi:hi≤w.1.size) (hl:(n:Int)≤8796093022208) (hc:SlsIn w lo hi ad n x) :
  Calls Tryz.prog 133 #[.slice ad n cap] w fun e w'=>e=.returned (.bool (XF x n))∧Below w.1.size w w':=by
 go_enter Tryz.func133,Tryz.ntmps133
 go_wp2
 go_loopw [7] (fun i wr=>∃ k:Nat,k≤n∧i=.int .i64 k∧Below w.1.size w wr∧Hid (∀ j,j<k→decide (0<(x j).bal)=true)) (fun i _=>n-(intOf i).toNat)
 case atStart=>exact ⟨0,zle _,rfl,br _ _,fun j hj=>absurd hj (nlz _)⟩
 case round=>
  obtain ⟨k,hk,rfl,hb,hall⟩:=hrel
  by_cases hkn:k<n
  ·obtain ⟨b,off,rfl,hlo,hbh,hcx⟩:=hc k hkn
   obtain ⟨d0,d1⟩:=hcx.below hb (by omega)
   clear hc hcx
   cases hs:decide (0<(x k).bal)
   ·have HE:=hid (show XF x n=false from ZQ (p:=fun i=>decide (0<(x i).bal)) hkn hs)
    go_wp2_with (go_at_call 160;refine (Kp (x k) _).mono ?_;rintro e w1 ⟨rfl,hb1⟩;rw [hs])
    go_ret
    exact ⟨Zh HE.out.symm,(hb.alloc hb.size _).trans (hb1.mono (by simp;have:=hb.size;omega))⟩
   ·have HE:=hid hs
    go_wp2_with (go_at_call 160;refine (Kp (x k) _).mono ?_;rintro e w1 ⟨rfl,hb1⟩;rw [hs])
    go_roundw
    case rel=>exact ⟨k+1,by omega,by go_num,(hb.alloc hb.size _).trans (hb1.mono (by simp;have:=hb.size;omega)),fun j hj=>by
      by_cases e:j=k
      ·rw [e];exact HE.out
      ·exact hall.out j (by omega)⟩
    case measure=>simp [intOf];omega
  ·have:k=n:=by omega
   subst this
   have HE:=hid (show XF x k=true from allTo_iff.2 (fun i hi=>hall.out i hi))
   clear hc
   go_wp2
   go_ret
   exact ⟨Zh HE.out.symm,hb⟩
def szDk (d:Dk):Nat:=YJ d.n d.s
theorem szDk_any (d:Dk) (ad:Option Addr) (cap:Nat) (left:Int) (w:World) (h0:0≤left) (h1:left≤1048576) (lo hi:Nat) (hhi:hi≤w.1.size) (hf:Uu d) (hc:SlsIn w lo hi ad d.n d.s) :
  Calls Tryz.prog 24 #[dkV d ad cap,.int .i64 left] w fun e w'=>e=.returned (.int .i64 (Yb left (szDk d)))∧Below w.1.size w w':=by
 obtain ⟨f1,f2⟩:=hf
 have hc1:=hc.below (Zb w (.cells #[.int .i64 d.pr,.int .i64 d.kn,.slice ad d.n cap] 24)) hhi
 unfold szDk
 go_enter Tryz.func24,Tryz.ntmps24
 go_wp2_with (go_at_call 28;refine (Kq d.n d.s ad cap left _ lo hi (by simp;omega) f1 h0 h1 f2 hc1).mono ?_;rintro e w1 ⟨rfl,hb1⟩)
 ·go_ret
  exact ⟨ZE (ZH (Yh (by assumption))).symm,(Zb _ _).trans (hb1.mono (by simp))⟩
 ·go_ret
  exact ⟨rfl,(Zb _ _).trans (hb1.mono (by simp))⟩
theorem toDk_any (d:Dk) (ad:Option Addr) (cap:Nat) (w:World) (lo hi:Nat) (hhi:hi≤w.1.size) (hl:(d.n:Int)≤1099511627776) (hc:SlsIn w lo hi ad d.n d.s) :
  Calls Tryz.prog 41 #[dkV d ad cap] w fun e w'=>∃ g,e=.returned (dkV d (some ⟨g,0,none⟩) d.n)∧SlsOwn w' w.1.size w'.1.size (some ⟨g,0,none⟩) d.n d.s∧Below w.1.size w w':=by
 go_enter Tryz.func41,Tryz.ntmps41
 go_wp2_with fail
 refine (Ko d.n d.s ad cap _ lo hi (by simp;omega) hl (hc.below (B:=w.1.size) ((((br _ _).alloc (lrf _) _).alloc (by simp) _).alloc (by simp;omega) _) hhi)).mono ?_
 rintro e w1 ⟨rfl,hown,hb1⟩
 have hbW:Below w.1.size w w1:=((((br _ _).alloc (lrf _) _).alloc (by simp) _).alloc (by simp;omega) _).trans (hb1.mono (by simp;omega))
 have hz:w.1.size+2<w1.1.size:=by have:=hb1.size;simp at this;omega
 obtain ⟨hcc,hff⟩:=bcell hb1
 simp only [World.size_alloc] at hcc hff hown
 have HO:=hid hown
 clear hb1 hc hown
 go_wp2
 refine bodyPost_ret (v:=dkV d (some ⟨w.1.size+1+1+1,0,none⟩) d.n) (by simp [results,Tryz.results41,go_sem,hcc]) rfl ⟨_,rfl,?_,?_⟩
 ·simp only [World.size_setCell]
  refine ⟨_,rfl,by omega,HO.out.room.lt,HO.out.fr (lo2:=w.1.size) (hi2:=w.1.size+3) ?_ (by omega)⟩
  iterate 4 refine Fr.setCell ?_ (by simp;try omega) (by simp;try omega) _
  exact Fr.refl _ _ _
 ·refine hbW.trans (Fr.below (lo:=w.1.size) (hi:=w.1.size+3) ?_ (lrf _) hbW.size)
  iterate 4 refine Fr.setCell ?_ (by simp;try omega) (by simp;try omega) _
  exact Fr.refl _ _ _
theorem eqDk_any (d:Dk) (ad ad2:Option Addr) (cap cap2:Nat) (w:World) (lo hi lo2 hi2:Nat) (hh:hi≤w.1.size) (hh2:hi2≤w.1.size) (hl:(d.n:Int)≤140737488355328)
  (hc:SlsIn w lo hi ad d.n d.s) (hc2:SlsIn w lo2 hi2 ad2 d.n d.s) :
  Calls Tryz.prog 50 #[dkV d ad cap,dkV d ad2 cap2] w fun e w'=>e=.returned (.bool true)∧Below w.1.size w w':=by
 go_enter Tryz.func50,Tryz.ntmps50
 go_wp2_with fail
 refine (Ky d.n d.s ad ad2 cap cap2 _ lo hi lo2 hi2 (by simp;omega) (by simp;omega) hl (hc.below (B:=w.1.size) ((Zb _ _).alloc (by simp) _) hh) (hc2.below (B:=w.1.size) ((Zb _ _).alloc (by simp) _) hh2)).mono ?_
 rintro e w1 ⟨rfl,hb1⟩
 go_wp2
 go_ret
 exact ⟨rfl,(((Zb _ _).alloc (by simp) _).trans (hb1.mono (by simp;omega)))⟩
structure Ms where
 kind:Int
 from_:Int
 to:Int
 bal:Int
 ix:Int
 kn:Int
 text:ByteArray
 n:Nat
 s:Nat→Sl
abbrev msC (m:Ms) (ad:Option Addr) (cap:Nat):Array Value:=#[.int .i64 m.kind,.int .i64 m.from_,.int .i64 m.to,.int .i64 m.bal,.int .i64 m.ix,.int .i64 m.kn,.string m.text,.slice ad m.n cap]
abbrev msV (m:Ms) (ad:Option Addr) (cap:Nat):Value:=.agg #[.int .i64 m.kind,.int .i64 m.from_,.int .i64 m.to,.int .i64 m.bal,.int .i64 m.ix,.int .i64 m.kn,.string m.text,.slice ad m.n cap]
structure Ji (m:Ms):Prop where
 t:(m.text.size:Int)≤140737488355328
 n:(m.n:Int)≤8796093022208
 s:∀ i,i<m.n→Ju (m.s i)
def msB (m:Ms) (of:Int):Bool:=inB m.kind 1 9&&(inB m.from_ 1 of&&(inB m.to 1 of&&(inB m.bal 0 1000000&&(inB m.ix 0 60&&(inB m.kn 0 60&&(decide ((m.text.size:Int)≤100)&&slsB m.n m.s))))))
def szMs (m:Ms):Nat:=m.text.size+YJ m.n m.s
theorem szMs_any (m:Ms) (ad:Option Addr) (cap:Nat) (left:Int) (w:World) (h0:0≤left) (h1:left≤1048576) (lo hi:Nat) (hhi:hi≤w.1.size) (hf:Ji m) (hc:SlsIn w lo hi ad m.n m.s) :
  Calls Tryz.prog 16 #[msV m ad cap,.int .i64 left] w fun e w'=>e=.returned (.int .i64 (Yb left (szMs m)))∧Below w.1.size w w':=by
 obtain ⟨f0,f1,f2⟩:=hf
 have hc1:=hc.below (Zb w (.cells (msC m ad cap) 48)) hhi
 unfold szMs
 by_cases hlt:left-m.text.size<0
 ·clear hc1
  go_enter Tryz.func16,Tryz.ntmps16
  go_wp2
  go_ret
  exact ⟨ZE (ZH (by omega)).symm,Zb _ _⟩
 ·go_enter Tryz.func16,Tryz.ntmps16
  go_wp2_with (go_at_call 28;refine (Kq m.n m.s ad cap _ _ lo hi (by simp;omega) f1 (by omega) (by omega) f2 hc1).mono ?_;rintro e w1 ⟨rfl,hb1⟩)
  ·go_ret
   exact ⟨ZE (ZH (by have:=Yh (by assumption);omega)).symm,(Zb _ _).trans (hb1.mono (by simp))⟩
  ·go_ret
   obtain ⟨g1,g2⟩:=Yu (by assumption)
   exact ⟨ZE (by rw [g2,YK (by omega)];omega),(Zb _ _).trans (hb1.mono (by simp))⟩
theorem JQ (m:Ms) (ad:Option Addr) (cap:Nat) (w:World) (lo hi:Nat) (hhi:hi≤w.1.size) (hl:(m.n:Int)≤1099511627776) (hc:SlsIn w lo hi ad m.n m.s) :
  Calls Tryz.prog 18 #[msV m ad cap] w fun e w'=>∃ g,e=.returned (msV m (some ⟨g,0,none⟩) m.n)∧SlsOwn w' w.1.size w'.1.size (some ⟨g,0,none⟩) m.n m.s∧Below w.1.size w w':=by
 go_enter Tryz.func18,Tryz.ntmps18
 go_wp2_with fail
 refine (Ko m.n m.s ad cap _ lo hi (by simp;omega) hl (hc.below (B:=w.1.size) ((((br _ _).alloc (lrf _) _).alloc (by simp) _).alloc (by simp;omega) _) hhi)).mono ?_
 rintro e w1 ⟨rfl,hown,hb1⟩
 have hbW:Below w.1.size w w1:=((((br _ _).alloc (lrf _) _).alloc (by simp) _).alloc (by simp;omega) _).trans (hb1.mono (by simp;omega))
 have hz:w.1.size+2<w1.1.size:=by have:=hb1.size;simp at this;omega
 obtain ⟨hcc,hff⟩:=bcell hb1
 simp only [World.size_alloc] at hcc hff hown
 have HO:=hid hown
 clear hb1 hc hown
 go_wp2
 refine bodyPost_ret (v:=msV m (some ⟨w.1.size+1+1+1,0,none⟩) m.n) (by simp [results,Tryz.results18,go_sem,hcc]) rfl ⟨_,rfl,?_,?_⟩
 ·simp only [World.size_setCell]
  refine ⟨_,rfl,by omega,HO.out.room.lt,HO.out.fr (lo2:=w.1.size) (hi2:=w.1.size+3) ?_ (by omega)⟩
  iterate 9 refine Fr.setCell ?_ (by simp;try omega) (by simp;try omega) _
  exact Fr.refl _ _ _
 ·refine hbW.trans (Fr.below (lo:=w.1.size) (hi:=w.1.size+3) ?_ (lrf _) hbW.size)
  iterate 9 refine Fr.setCell ?_ (by simp;try omega) (by simp;try omega) _
  exact Fr.refl _ _ _
theorem eqMs_any (m:Ms) (ad ad2:Option Addr) (cap cap2:Nat) (w:World) (lo hi lo2 hi2:Nat) (hh:hi≤w.1.size) (hh2:hi2≤w.1.size) (hl:(m.n:Int)≤140737488355328)
  (hc:SlsIn w lo hi ad m.n m.s) (hc2:SlsIn w lo2 hi2 ad2 m.n m.s) :
  Calls Tryz.prog 20 #[msV m ad cap,msV m ad2 cap2] w fun e w'=>e=.returned (.bool true)∧Below w.1.size w w':=by
 go_enter Tryz.func20,Tryz.ntmps20
 go_wp2_with fail
 refine (Ky m.n m.s ad ad2 cap cap2 _ lo hi lo2 hi2 (by simp;omega) (by simp;omega) hl (hc.below (B:=w.1.size) ((Zb _ _).alloc (by simp) _) hh) (hc2.below (B:=w.1.size) ((Zb _ _).alloc (by simp) _) hh2)).mono ?_
 rintro e w1 ⟨rfl,hb1⟩
 go_wp2
 go_ret
 exact ⟨rfl,(((Zb _ _).alloc (by simp) _).trans (hb1.mono (by simp;omega)))⟩
theorem apK7 {P:Prop} (h:P:=by
  clear hS hc1
  go_enter Tryz.func69,Tryz.ntmps69
  go_wp2_with (first|(go_at_call 93;refine (Zu _ _ _ _).mono ?_;rintro e w1 ⟨rfl,rfl⟩;first|rw [h0]|rw [h1]|rw [h2]|rw [h3]|rw [h4]|rw [h5]))
  go_ret
  exact ⟨Zh HB.out.symm,Zb _ _⟩):P:=h
theorem Xi (m:Ms) (of:Int) (ad:Option Addr) (cap:Nat) (w:World) (lo hi:Nat) (hhi:hi≤w.1.size) (hf:Ji m) (hc:SlsIn w lo hi ad m.n m.s) :
  Calls Tryz.prog 69 #[msV m ad cap,.int .i64 of] w fun e w'=>e=.returned (.bool (msB m of))∧Below w.1.size w w':=by
 obtain ⟨b0,h0⟩:∃ b,inB m.kind 1 9=b:=⟨_,rfl⟩
 obtain ⟨b1,h1⟩:∃ b,inB m.from_ 1 of=b:=⟨_,rfl⟩
 obtain ⟨b2,h2⟩:∃ b,inB m.to 1 of=b:=⟨_,rfl⟩
 obtain ⟨b3,h3⟩:∃ b,inB m.bal 0 1000000=b:=⟨_,rfl⟩
 obtain ⟨b4,h4⟩:∃ b,inB m.ix 0 60=b:=⟨_,rfl⟩
 obtain ⟨b5,h5⟩:∃ b,inB m.kn 0 60=b:=⟨_,rfl⟩
 obtain ⟨b6,h6⟩:∃ b,decide ((m.text.size:Int)≤100)=b:=⟨_,rfl⟩
 obtain ⟨b7,h7⟩:∃ b,slsB m.n m.s=b:=⟨_,rfl⟩
 have HB:=hid (show msB m of=(b0&&(b1&&(b2&&(b3&&(b4&&(b5&&(b6&&b7))))))) by rw [←h0,←h1,←h2,←h3,←h4,←h5,←h6,←h7];rfl)
 have hc1:=hc.below (Zb w (.cells (msC m ad cap) 52)) hhi
 obtain ⟨ft,f1,f2⟩:=hf
 clear hc
 have hS:=XA m.n m.s _ cap _ lo hi (by simp;omega) f1 f2 hc1
 rw [h7] at hS
 cases b0
 ·clear hS hc1
  go_enter Tryz.func69,Tryz.ntmps69
  go_wp2_with (first|(go_at_call 93;refine (Zu _ _ _ _).mono ?_;rintro e w1 ⟨rfl,rfl⟩;first|rw [h0]))
  go_ret
  exact ⟨Zh HB.out.symm,Zb _ _⟩
 cases b1
 ·clear hS hc1
  go_enter Tryz.func69,Tryz.ntmps69
  go_wp2_with (first|(go_at_call 93;refine (Zu _ _ _ _).mono ?_;rintro e w1 ⟨rfl,rfl⟩;first|rw [h0]|rw [h1]))
  go_ret
  exact ⟨Zh HB.out.symm,Zb _ _⟩
 cases b2
 ·clear hS hc1
  go_enter Tryz.func69,Tryz.ntmps69
  go_wp2_with (first|(go_at_call 93;refine (Zu _ _ _ _).mono ?_;rintro e w1 ⟨rfl,rfl⟩;first|rw [h0]|rw [h1]|rw [h2]))
  go_ret
  exact ⟨Zh HB.out.symm,Zb _ _⟩
 cases b3
 ·clear hS hc1
  go_enter Tryz.func69,Tryz.ntmps69
  go_wp2_with (first|(go_at_call 93;refine (Zu _ _ _ _).mono ?_;rintro e w1 ⟨rfl,rfl⟩;first|rw [h0]|rw [h1]|rw [h2]|rw [h3]))
  go_ret
  exact ⟨Zh HB.out.symm,Zb _ _⟩
 cases b4
 ·clear hS hc1
  go_enter Tryz.func69,Tryz.ntmps69
  go_wp2_with (first|(go_at_call 93;refine (Zu _ _ _ _).mono ?_;rintro e w1 ⟨rfl,rfl⟩;first|rw [h0]|rw [h1]|rw [h2]|rw [h3]|rw [h4]))
  go_ret
  exact ⟨Zh HB.out.symm,Zb _ _⟩
 cases b5
 ·exact apK7
 cases b6
 ·have h6':=of_decide_eq_false h6
  exact apK7
 have h6':=of_decide_eq_true h6
 go_enter Tryz.func69,Tryz.ntmps69
 go_wp2_with (first|(go_at_call 93;refine (Zu _ _ _ _).mono ?_;rintro e w1 ⟨rfl,rfl⟩;first|rw [h0]|rw [h1]|rw [h2]|rw [h3]|rw [h4]|rw [h5])|(go_at_call 95;refine hS.mono ?_;rintro e w1 ⟨rfl,hb1⟩))
 go_ret
 exact ⟨Zh HB.out.symm,(Zb _ _).trans (hb1.mono (by simp))⟩
theorem apK8 {P:Prop} (h:P:=by
  clear hS hc1
  go_enter Tryz.func66,Tryz.ntmps66
  go_wp2_with (first|(go_at_call 75;refine (ZI _ _ _ _).mono ?_;rintro e w1 ⟨rfl,rfl⟩;first|rw [h0]|rw [h1]|rw [h2]|rw [h3]|rw [h4]|rw [h5]))
  go_ret
  exact ⟨Zh HB.out.symm,Zb _ _⟩):P:=h
theorem Xf (m:Ms) (of:Int) (ad:Option Addr) (cap:Nat) (w:World) (lo hi:Nat) (hhi:hi≤w.1.size) (hf:Ji m) (hc:SlsIn w lo hi ad m.n m.s) :
  Calls Tryz.prog 66 #[msV m ad cap,.int .i64 of] w fun e w'=>e=.returned (.bool (msB m of))∧Below w.1.size w w':=by
 obtain ⟨b0,h0⟩:∃ b,inB m.kind 1 9=b:=⟨_,rfl⟩
 obtain ⟨b1,h1⟩:∃ b,inB m.from_ 1 of=b:=⟨_,rfl⟩
 obtain ⟨b2,h2⟩:∃ b,inB m.to 1 of=b:=⟨_,rfl⟩
 obtain ⟨b3,h3⟩:∃ b,inB m.bal 0 1000000=b:=⟨_,rfl⟩
 obtain ⟨b4,h4⟩:∃ b,inB m.ix 0 60=b:=⟨_,rfl⟩
 obtain ⟨b5,h5⟩:∃ b,inB m.kn 0 60=b:=⟨_,rfl⟩
 obtain ⟨b6,h6⟩:∃ b,decide ((m.text.size:Int)≤100)=b:=⟨_,rfl⟩
 obtain ⟨b7,h7⟩:∃ b,slsB m.n m.s=b:=⟨_,rfl⟩
 have HB:=hid (show msB m of=(b0&&(b1&&(b2&&(b3&&(b4&&(b5&&(b6&&b7))))))) by rw [←h0,←h1,←h2,←h3,←h4,←h5,←h6,←h7];rfl)
 have hc1:=hc.below (Zb w (.cells (msC m ad cap) 52)) hhi
 obtain ⟨ft,f1,f2⟩:=hf
 clear hc
 have hS:=XS m.n m.s _ cap _ lo hi (by simp;omega) f1 f2 hc1
 rw [h7] at hS
 cases b0
 ·clear hS hc1
  go_enter Tryz.func66,Tryz.ntmps66
  go_wp2_with (first|(go_at_call 75;refine (ZI _ _ _ _).mono ?_;rintro e w1 ⟨rfl,rfl⟩;first|rw [h0]))
  go_ret
  exact ⟨Zh HB.out.symm,Zb _ _⟩
 cases b1
 ·clear hS hc1
  go_enter Tryz.func66,Tryz.ntmps66
  go_wp2_with (first|(go_at_call 75;refine (ZI _ _ _ _).mono ?_;rintro e w1 ⟨rfl,rfl⟩;first|rw [h0]|rw [h1]))
  go_ret
  exact ⟨Zh HB.out.symm,Zb _ _⟩
 cases b2
 ·clear hS hc1
  go_enter Tryz.func66,Tryz.ntmps66
  go_wp2_with (first|(go_at_call 75;refine (ZI _ _ _ _).mono ?_;rintro e w1 ⟨rfl,rfl⟩;first|rw [h0]|rw [h1]|rw [h2]))
  go_ret
  exact ⟨Zh HB.out.symm,Zb _ _⟩
 cases b3
 ·clear hS hc1
  go_enter Tryz.func66,Tryz.ntmps66
  go_wp2_with (first|(go_at_call 75;refine (ZI _ _ _ _).mono ?_;rintro e w1 ⟨rfl,rfl⟩;first|rw [h0]|rw [h1]|rw [h2]|rw [h3]))
  go_ret
  exact ⟨Zh HB.out.symm,Zb _ _⟩
 cases b4
 ·clear hS hc1
  go_enter Tryz.func66,Tryz.ntmps66
  go_wp2_with (first|(go_at_call 75;refine (ZI _ _ _ _).mono ?_;rintro e w1 ⟨rfl,rfl⟩;first|rw [h0]|rw [h1]|rw [h2]|rw [h3]|rw [h4]))
  go_ret
  exact ⟨Zh HB.out.symm,Zb _ _⟩
 cases b5
 ·exact apK8
 cases b6
 ·have h6':=of_decide_eq_false h6
  exact apK8
 have h6':=of_decide_eq_true h6
 go_enter Tryz.func66,Tryz.ntmps66
 go_wp2_with (first|(go_at_call 75;refine (ZI _ _ _ _).mono ?_;rintro e w1 ⟨rfl,rfl⟩;first|rw [h0]|rw [h1]|rw [h2]|rw [h3]|rw [h4]|rw [h5])|(go_at_call 79;refine hS.mono ?_;rintro e w1 ⟨rfl,hb1⟩))
 go_ret
 exact ⟨Zh HB.out.symm,(Zb _ _).trans (hb1.mono (by simp))⟩
def IntsIn (w:World) (lo hi:Nat) (ad:Option Addr) (n:Nat) (s:Nat→Int):Prop:=
 ∀ i,i<n→∃ b off,ad=some ⟨b,off,none⟩∧lo≤b∧b<hi∧w.cell? ⟨b,off+i,none⟩=some (.int .i64 (s i))
def IntsOwn (w:World) (lo hi:Nat) (ad:Option Addr) (n:Nat) (s:Nat→Int):Prop:=
 ∀ i,i<n→∃ b off,ad=some ⟨b,off,none⟩∧lo≤b∧b<hi∧w.cell? ⟨b,off+i,none⟩=some (.int .i64 (s i))∧w.frozen? ⟨b,off+i,none⟩=false
theorem Tryz.info3:(Tryz.prog.info? 3).map (fun i=>(i.zero,i.size,i.bytes))=some (some (.int .i64 0),1,8):=by kernel_rfl
theorem toInts_rel {w':World} {g n:Nat} {base:Nat} {xs:List Value}
  (ho:w'.ownsRow base 3 1 (.slice (some ⟨g,0,none⟩) n n) n xs) :
  (∀ j,j<n→∃ u,w'.cell? ⟨g,j,none⟩=some u)∧(∀ j,w'.frozen? ⟨g,j,none⟩=false)∧g<w'.1.size:=by
 refine ⟨fun j hj=>?_,fun j=>ho.frozenAt j,?_⟩
 ·rw [ho.cellAt j (by omega)]
  have:j<xs.length:=by rw [ho.1];omega
  exact ⟨xs[j],by simp [this]⟩
 ·exact apK3
theorem toInts_step {w wr:World} {n k:Nat} {s:Nat→Int} (hb:Below w.1.size w wr) (hsz:w.1.size<wr.1.size) (hce:∀ j,j<n→∃ u,wr.cell? ⟨w.1.size,j,none⟩=some u)
  (hfr:∀ j,wr.frozen? ⟨w.1.size,j,none⟩=false) (hd:∀ j,j<k→wr.cell? ⟨w.1.size,j,none⟩=some (.int .i64 (s j))) (hk:k<n) :
  let w2:=wr.setCell ⟨w.1.size,k,none⟩ (.int .i64 (s k))
  Below w.1.size w w2∧w.1.size<w2.1.size∧(∀ j,j<n→∃ u,w2.cell? ⟨w.1.size,j,none⟩=some u)∧(∀ j,w2.frozen? ⟨w.1.size,j,none⟩=false)∧∀ j,j<k+1→w2.cell? ⟨w.1.size,j,none⟩=some (.int .i64 (s j)):=by
 exact apK4
theorem K9 (n:Nat) (s:Nat→Int) (ad:Option Addr) (cap:Nat) (w:World) (lo hi:Nat) (hhi:hi≤w.1.size) (hl:(n:Int)≤1099511627776)
  (hc:IntsIn w lo hi ad n s) :
  Calls Tryz.prog 44 #[.slice ad n cap] w fun e w'=>∃ ad' cap',e=.returned (.slice ad' n cap')∧IntsOwn w' w.1.size w'.1.size ad' n s∧Below w.1.size w w':=by
 obtain ⟨i0,hi0,hz0,hz1,hz2⟩:=info_parts Tryz.info3
 go_enter Tryz.func44,Tryz.ntmps44
 go_wp2_with (first
  | (at_make;refine wpList_make_full _ rfl _ _ 27 rfl w.1.size 3 i0 (.int .i64 0) 1 Tryz.underlying27 hi0 hz0 hz1 .i64 .i64 _ _ n rfl rfl (by omega) (by omega) (by rw [hz2];omega) (by unfold maxLen;omega) (by omega) ?_;intro w1 hown1 hgrow1)
  )
 obtain ⟨r1,r2,r3⟩:=toInts_rel hown1
 have hb1:Below w.1.size w w1:=(br _ _).grown hgrow1 (lrf _) (by simp)
 clear hown1 hgrow1 hi0 hz0 hz1 hz2
 go_loopw [4] (fun i wr=>∃ k:Nat,k≤n∧i=.int .i64 k∧Below w.1.size w wr∧w.1.size<wr.1.size∧(∀ j,j<n→∃ u,wr.cell? ⟨w.1.size,j,none⟩=some u)∧(∀ j,wr.frozen? ⟨w.1.size,j,none⟩=false)∧∀ j,j<k→wr.cell? ⟨w.1.size,j,none⟩=some (.int .i64 (s j))) (fun i _=>n-(intOf i).toNat)
 case atStart=>exact ⟨0,zle _,rfl,hb1,r3,r1,r2,fun j hj=>absurd hj (nlz _)⟩
 case round=>
  obtain ⟨k,hk,rfl,hb,hsz,hce,hfr,hdone⟩:=hrel
  clear r1 r2 r3 hb1
  by_cases hkn:k<n
  ·obtain ⟨b,off,rfl,hlo,hbh,hcx⟩:=hc k hkn
   have hcx':wr.cell? ⟨b,off+k,none⟩=some (.int .i64 (s k)):=(hb.cell (p:=⟨b,off+k,none⟩) (by show b<_;omega)).trans hcx
   obtain ⟨u,hu⟩:=hce k hkn
   have hfk:=hfr k
   have R:=toInts_step (s:=s) hb hsz hce hfr hdone hkn
   clear hc hcx hce hfr hdone
   have HR:=hid R
   clear R
   go_wp2
   go_roundw
   case rel=>exact ⟨k+1,by omega,by go_num,HR.out⟩
   case measure=>simp [intOf];omega
  ·have:k=n:=by omega
   subst this
   have HR:=hid (And.intro hsz (And.intro hfr hdone))
   clear hc hce hfr hdone
   go_wp2
   go_ret
   exact ⟨_,_,rfl,fun i hi=>⟨_,0,rfl,lrf _,HR.out.1,by simpa using HR.out.2.2 i hi,by simpa using HR.out.2.1 i⟩,hb⟩
theorem IntsIn.below {w w':World} {B lo hi:Nat} {ad:Option Addr} {n:Nat} {s:Nat→Int} (h:IntsIn w lo hi ad n s) (hb:Below B w w') (hB:hi≤B):IntsIn w' lo hi ad n s:=fun i hi'=>by
 obtain ⟨b,off,e1,e2,e3,e4⟩:=h i hi'
 exact ⟨b,off,e1,e2,e3,(hb.cell (p:=⟨b,off+i,none⟩) (ltl e3 hB)).trans e4⟩
theorem IntsIn.alloc {w:World} {lo hi:Nat} {ad:Option Addr} {n:Nat} {s:Nat→Int} (h:IntsIn w lo hi ad n s) (hB:hi≤w.1.size) (o:Obj):IntsIn (w.alloc o) lo hi ad n s:=
 h.below ((br w.1.size w).alloc (lrf _) o) hB
theorem IntsOwn.fr {w w':World} {lo hi lo2 hi2:Nat} {ad:Option Addr} {n:Nat} {s:Nat→Int} (h:IntsOwn w lo hi ad n s) (hb:Fr lo2 hi2 w w') (hw:hi≤w.1.size) (ho:hi≤lo2∨hi2≤lo):IntsOwn w' lo hi ad n s:=fun i hi'=>by
 exact apK6
theorem IntsOwn.mono {w:World} {lo hi lo2 hi2:Nat} {ad:Option Addr} {n:Nat} {s:Nat→Int} (h:IntsOwn w lo hi ad n s) (h1:lo2≤lo) (h2:hi≤hi2):IntsOwn w lo2 hi2 ad n s:=fun i hi'=>by
 obtain ⟨b,off,e1,e2,e3,e4,e5⟩:=h i hi'
 exact ⟨b,off,e1,by omega,by omega,e4,e5⟩
theorem IntsOwn.isIn {w:World} {lo hi:Nat} {ad:Option Addr} {n:Nat} {s:Nat→Int} (h:IntsOwn w lo hi ad n s):IntsIn w lo hi ad n s:=fun i hi'=>by
 obtain ⟨b,off,e1,e2,e3,e4,e5⟩:=h i hi'
 exact ⟨b,off,e1,e2,e3,e4⟩
theorem IntsIn.drewN {w:World} {lo hi:Nat} {ad:Option Addr} {n:Nat} {s:Nat→Int} (h:IntsIn w lo hi ad n s) (q:Nat):IntsIn (w.drewN q) lo hi ad n s:=h
theorem IntsIn.mono {w:World} {lo hi lo2 hi2:Nat} {ad:Option Addr} {n:Nat} {s:Nat→Int} (h:IntsIn w lo hi ad n s) (h1:lo2≤lo) (h2:hi≤hi2):IntsIn w lo2 hi2 ad n s:=fun i hi'=>by
 obtain ⟨b,off,e1,e2,e3,e4⟩:=h i hi'
 exact ⟨b,off,e1,by omega,by omega,e4⟩
theorem Ur (n:Nat) (s:Nat→Int) (ad ad2:Option Addr) (cap cap2:Nat) (w:World) (lo hi lo2 hi2:Nat) (hl:(n:Int)≤140737488355328)
  (hc:IntsIn w lo hi ad n s) (hc2:IntsIn w lo2 hi2 ad2 n s) :
  Calls Tryz.prog 52 #[.slice ad n cap,.slice ad2 n cap2] w fun e w'=>e=.returned (.bool true)∧∃ q,w'=w.drewN q:=by
 go_enter Tryz.func52,Tryz.ntmps52
 exact apK0
theorem Ua (n:Nat) (ad:Option Addr) (cap:Nat) (left:Int) (w:World) (hl:(n:Int)≤140737488355328) (h0:0≤left) (h1:left≤1048576) :
  Calls Tryz.prog 27 #[.slice ad n cap,.int .i64 left] w fun e w'=>e=.returned (.int .i64 (Yb left n))∧w'=w:=by
 by_cases hlt:left-n<0
 ·go_enter Tryz.func27,Tryz.ntmps27
  go_wp2
  go_ret
  exact ⟨ZE (ZH (by omega)).symm,rfl⟩
 ·go_enter Tryz.func27,Tryz.ntmps27
  go_wp2
  go_ret
  exact ⟨ZE (YK (by omega)).symm,rfl⟩
structure Ak where
 ix:Int
 n:Nat
 s:Nat→Int
abbrev akV (a:Ak) (ad:Option Addr) (cap:Nat):Value:=.agg #[.int .i64 a.ix,.slice ad a.n cap]
structure AkFit (a:Ak):Prop where
 n:(a.n:Int)≤17592186044416
def szAk (a:Ak):Nat:=a.n
theorem szAk_any (a:Ak) (ad:Option Addr) (cap:Nat) (left:Int) (w:World) (h0:0≤left) (h1:left≤1048576) (hf:AkFit a) :
  Calls Tryz.prog 74 #[akV a ad cap,.int .i64 left] w fun e w'=>e=.returned (.int .i64 (Yb left (szAk a)))∧Below w.1.size w w':=by
 obtain ⟨f1⟩:=hf
 unfold szAk
 go_enter Tryz.func74,Tryz.ntmps74
 go_wp2_with (go_at_call 27;refine (Ua a.n ad cap left _ (by omega) h0 h1).mono ?_;rintro e w1 ⟨rfl,rfl⟩)
 ·go_ret
  exact ⟨ZE (ZH (Yh (by assumption))).symm,Zb _ _⟩
 ·go_ret
  exact ⟨rfl,Zb _ _⟩
theorem toAk_any (a:Ak) (ad:Option Addr) (cap:Nat) (w:World) (lo hi:Nat) (hhi:hi≤w.1.size) (hl:(a.n:Int)≤1099511627776) (hc:IntsIn w lo hi ad a.n a.s) :
  Calls Tryz.prog 88 #[akV a ad cap] w fun e w'=>∃ ad' cap',e=.returned (akV a ad' cap')∧IntsOwn w' w.1.size w'.1.size ad' a.n a.s∧Below w.1.size w w':=by
 go_enter Tryz.func88,Tryz.ntmps88
 go_wp2_with fail
 refine (K9 a.n a.s ad cap _ lo hi (by simp;omega) hl (hc.below (B:=w.1.size) ((((br _ _).alloc (lrf _) _).alloc (by simp) _).alloc (by simp;omega) _) hhi)).mono ?_
 rintro e w1 ⟨ad',cap',rfl,hown,hb1⟩
 have hbW:Below w.1.size w w1:=((((br _ _).alloc (lrf _) _).alloc (by simp) _).alloc (by simp;omega) _).trans (hb1.mono (by simp;omega))
 have hz:w.1.size+2<w1.1.size:=by have:=hb1.size;simp at this;omega
 obtain ⟨hcc,hff⟩:=bcell hb1
 simp only [World.size_alloc] at hcc hff hown
 have HO:=hid hown
 clear hb1 hc hown
 go_wp2
 refine bodyPost_ret (v:=akV a ad' cap') (by simp [results,Tryz.results88,go_sem,hcc]) rfl ⟨ad',cap',rfl,?_,?_⟩
 ·simp only [World.size_setCell]
  refine (IntsOwn.fr HO.out (lo2:=w.1.size) (hi2:=w.1.size+3) ?_ (lrf _) (by omega)).mono (by omega) (lrf _)
  iterate 3 refine Fr.setCell ?_ (by simp;try omega) (by simp;try omega) _
  exact Fr.refl _ _ _
 ·refine hbW.trans (Fr.below (lo:=w.1.size) (hi:=w.1.size+3) ?_ (lrf _) hbW.size)
  iterate 3 refine Fr.setCell ?_ (by simp;try omega) (by simp;try omega) _
  exact Fr.refl _ _ _
theorem eqAk_any (a:Ak) (ad ad2:Option Addr) (cap cap2:Nat) (w:World) (lo hi lo2 hi2:Nat) (hh:hi≤w.1.size) (hh2:hi2≤w.1.size) (hl:(a.n:Int)≤140737488355328)
  (hc:IntsIn w lo hi ad a.n a.s) (hc2:IntsIn w lo2 hi2 ad2 a.n a.s) :
  Calls Tryz.prog 114 #[akV a ad cap,akV a ad2 cap2] w fun e w'=>e=.returned (.bool true)∧Below w.1.size w w':=by
 go_enter Tryz.func114,Tryz.ntmps114
 go_wp2_with fail
 refine (Ur a.n a.s ad ad2 cap cap2 _ lo hi lo2 hi2 hl ((hc.alloc hh _).alloc (by simp;omega) _) ((hc2.alloc hh2 _).alloc (by simp;omega) _)).mono ?_
 rintro e w1 ⟨rfl,q,rfl⟩
 go_wp2
 go_ret
 exact ⟨rfl,(((Zb _ _).alloc (by simp) _).trans ((Yt _ _).mono (by simp;omega)))⟩
theorem toMs_any' (m:Ms) (ad:Option Addr) (cap:Nat) (w:World) (lo hi:Nat) (hhi:hi≤w.1.size) (hl:(m.n:Int)≤1099511627776) (hc:SlsIn w lo hi ad m.n m.s) :
  Calls Tryz.prog 18 #[msV m ad cap] w fun e w'=>∃ ad' cap',e=.returned (msV m ad' cap')∧SlsOwn w' w.1.size w'.1.size ad' m.n m.s∧Below w.1.size w w':=
 (JQ m ad cap w lo hi hhi hl hc).mono fun _ _ ⟨_g,h1,h2,h3⟩=>⟨_,_,h1,h2,h3⟩
structure MsCells (w:World) (b o:Nat) (x:Ms) (ad:Option Addr) (cap:Nat):Prop where
 c0:w.cell? ⟨b,o,none⟩=some (.int .i64 x.kind)
 c1:w.cell? ⟨b,o+1,none⟩=some (.int .i64 x.from_)
 c2:w.cell? ⟨b,o+2,none⟩=some (.int .i64 x.to)
 c3:w.cell? ⟨b,o+3,none⟩=some (.int .i64 x.bal)
 c4:w.cell? ⟨b,o+4,none⟩=some (.int .i64 x.ix)
 c5:w.cell? ⟨b,o+5,none⟩=some (.int .i64 x.kn)
 c6:w.cell? ⟨b,o+6,none⟩=some (.string x.text)
 c7:w.cell? ⟨b,o+7,none⟩=some (.slice ad x.n cap)
def MssIn (w:World) (lo hi:Nat) (ad:Option Addr) (n:Nat) (x:Nat→Ms):Prop:=
 ∀ i,i<n→∃ b off ah ch,ad=some ⟨b,off,none⟩∧lo≤b∧b<hi∧MsCells w b (off+i*8) (x i) ah ch∧SlsIn w lo hi ah (x i).n (x i).s
theorem MsCells.below {w w':World} {B b o:Nat} {x:Ms} {ad:Option Addr} {cap:Nat} (h:MsCells w b o x ad cap) (hb:Below B w w') (hB:b<B):MsCells w' b o x ad cap:=
 ⟨(hb.cell (p:=⟨b,o,none⟩) hB).trans h.c0,(hb.cell (p:=⟨b,o+1,none⟩) hB).trans h.c1,(hb.cell (p:=⟨b,o+2,none⟩) hB).trans h.c2,(hb.cell (p:=⟨b,o+3,none⟩) hB).trans h.c3,(hb.cell (p:=⟨b,o+4,none⟩) hB).trans h.c4,(hb.cell (p:=⟨b,o+5,none⟩) hB).trans h.c5,(hb.cell (p:=⟨b,o+6,none⟩) hB).trans h.c6,(hb.cell (p:=⟨b,o+7,none⟩) hB).trans h.c7⟩
theorem MssIn.below {w w':World} {B lo hi:Nat} {ad:Option Addr} {n:Nat} {x:Nat→Ms} (h:MssIn w lo hi ad n x) (hb:Below B w w') (hB:hi≤B):MssIn w' lo hi ad n x:=fun i hi'=>by
 obtain ⟨b,off,ah,ch,e1,e2,e3,e4,e5⟩:=h i hi'
 exact ⟨b,off,ah,ch,e1,e2,e3,e4.below hb (by omega),e5.below hb hB⟩
theorem MssIn.mono {w:World} {lo hi lo2 hi2:Nat} {ad:Option Addr} {n:Nat} {x:Nat→Ms} (h:MssIn w lo hi ad n x) (h1:lo2≤lo) (h2:hi≤hi2):MssIn w lo2 hi2 ad n x:=fun i hi'=>by
 obtain ⟨b,off,ah,ch,e1,e2,e3,e4,e5⟩:=h i hi'
 exact ⟨b,off,ah,ch,e1,by omega,by omega,e4,e5.mono h1 h2⟩
def Xa (n:Nat) (x:Nat→Ms):Nat:=n+Zz (fun i=>szMs (x i)) n
theorem szMss_any (n:Nat) (x:Nat→Ms) (ad:Option Addr) (cap:Nat) (left:Int) (w:World) (lo hi:Nat) (hhi:hi≤w.1.size) (hl:(n:Int)≤8796093022208) (h0:0≤left) (h1:left≤1048576) (hf:∀ i,i<n→Ji (x i))
  (hc:MssIn w lo hi ad n x) :
  Calls Tryz.prog 25 #[.slice ad n cap,.int .i64 left] w fun e w'=>e=.returned (.int .i64 (Yb left (Xa n x)))∧Below w.1.size w w':=by
 by_cases hlt:left-n<0
 ·go_enter Tryz.func25,Tryz.ntmps25
  go_wp2
  go_ret
  exact ⟨ZE (ZH (by unfold Xa;omega)).symm,br _ _⟩
 ·go_enter Tryz.func25,Tryz.ntmps25
  go_wp2
  go_loopw [1,5] (fun t i wr=>∃ k:Nat,k≤n∧i=.int .i64 k∧t=.int .i64 (left-n-(Zz (fun i=>szMs (x i)) k:Nat))∧0≤left-n-(Zz (fun i=>szMs (x i)) k:Nat)∧Below w.1.size w wr) (fun _ i _=>n-(intOf i).toNat)
  case atStart=>exact ⟨0,zle _,rfl,by simp [Zz],by simp [Zz];omega,br _ _⟩
  case round=>
   obtain ⟨k,hk,rfl,rfl,hnn,hb⟩:=hrel
   have hst:Zz (fun i=>szMs (x i)) (k+1)=Zz (fun i=>szMs (x i)) k+szMs (x k):=rfl
   have hmo:k<n→Zz (fun i=>szMs (x i)) (k+1)≤Zz (fun i=>szMs (x i)) n:=fun h=>XQ _ h
   generalize hq:Zz (fun i=>szMs (x i)) k=q at *
   generalize hq1:Zz (fun i=>szMs (x i)) (k+1)=q1 at *
   by_cases hkn:k<n
   ·obtain ⟨b,off,ah,ch,rfl,hlo,hbh,hcx,hsx⟩:=hc k hkn
    have hmo:=hmo hkn
    have hfk:=hf k hkn
    have HS:Hid (q1=q+szMs (x k)):=hst
    have HQ:Hid (Zz (fun i=>szMs (x i)) (k+1)=q1):=hq1
    clear hst hq hq1 hc hf
    have hcell:∀ j,wr.cell? ⟨b,off+k*8+j,none⟩=w.cell? ⟨b,off+k*8+j,none⟩:=fun j=>hb.cell (p:=⟨b,off+k*8+j,none⟩) (by show b<_;omega)
    have hcell0:wr.cell? ⟨b,off+k*8,none⟩=w.cell? ⟨b,off+k*8,none⟩:=hb.cell (p:=⟨b,off+k*8,none⟩) (by show b<_;omega)
    obtain ⟨d0,d1,d2,d3,d4,d5,d6,d7⟩:=hcx
    rw [←hcell] at d1 d2 d3 d4 d5 d6 d7
    rw [←hcell0] at d0
    clear hcell hcell0
    have hsx':=hsx.below hb hhi
    clear hsx
    generalize x k=y at *
    clear hmo
    rename_i hmo
    go_wp2_with (go_at_call 16;refine (szMs_any y ah ch _ wr (by omega) (by omega) lo hi (ltr hhi hb.size) hfk hsx').mono ?_;rintro e w1 ⟨rfl,hb1⟩)
    ·go_ret
     refine ⟨ZE (ZH ?_).symm,hb.trans (hb1.mono hb.size)⟩
     have:=HS.out
     have:=Yh (by assumption)
     have:=hmo hkn
     unfold Xa;omega
    ·exact apK1
   ·have:k=n:=by omega
    subst this
    clear hc hf hst hmo hq1
    have HQ:Hid (Zz (fun i=>szMs (x i)) k=q):=hq
    clear hq
    go_wp2
    go_ret
    refine ⟨ZE ?_,hb⟩
    have:=HQ.out
    rw [YK (by unfold Xa;omega)]
    unfold Xa;omega
theorem Tryz.info52:(Tryz.prog.info? 52).map (fun i=>(i.zero,i.size,i.bytes))=some (some (.agg #[.int .i64 0,.int .i64 0,.int .i64 0,.int .i64 0,.int .i64 0,.int .i64 0,.string ByteArray.empty,.slice none 0 0]),8,88):=by kernel_rfl
structure MssOwn (w:World) (g hi n m:Nat) (x:Nat→Ms) (r:Nat→Nat):Prop where
 room:Room w g (m*8)
 r0:g<r 0
 mono:∀ i,i<n→r i≤r (i+1)
 rn:r n≤hi
 hi:hi≤w.1.size
 at_:∀ i,i<n→∃ ah ch,MsCells w g (i*8) (x i) ah ch∧SlsOwn w (r i) (r (i+1)) ah (x i).n (x i).s
theorem MsCells.fr {w w':World} {b o:Nat} {x:Ms} {ad:Option Addr} {cap:Nat} (h:MsCells w b o x ad cap) (e:∀ j,j<8→w'.cell? ⟨b,o+j,none⟩=w.cell? ⟨b,o+j,none⟩):MsCells w' b o x ad cap:=
 ⟨(e 0 (by omega)).trans h.c0,(e 1 (by omega)).trans h.c1,(e 2 (by omega)).trans h.c2,(e 3 (by omega)).trans h.c3,(e 4 (by omega)).trans h.c4,(e 5 (by omega)).trans h.c5,(e 6 (by omega)).trans h.c6,(e 7 (by omega)).trans h.c7⟩
theorem MssOwn.step {wr w1:World} {g k n:Nat} {x:Nat→Ms} {r:Nat→Nat} (h:MssOwn wr g wr.1.size k n x r) (hk:k<n) (hb:Below wr.1.size wr w1) {ah:Option Addr} {ch:Nat}
  (hs:SlsOwn w1 wr.1.size w1.1.size ah (x k).n (x k).s) :
  ∃ r',MssOwn (w1.setCells g (k*8) [.int .i64 (x k).kind,.int .i64 (x k).from_,.int .i64 (x k).to,.int .i64 (x k).bal,.int .i64 (x k).ix,.int .i64 (x k).kn,.string (x k).text,.slice ah (x k).n ch]) g (w1.setCells g (k*8) [.int .i64 (x k).kind,.int .i64 (x k).from_,.int .i64 (x k).to,.int .i64 (x k).bal,.int .i64 (x k).ix,.int .i64 (x k).kn,.string (x k).text,.slice ah (x k).n ch]).1.size (k+1) n x r':=by
 have hg:=h.room.lt
 have hR:=h.room.below hb hg
 generalize hvs:[Value.int .i64 (x k).kind,.int .i64 (x k).from_,.int .i64 (x k).to,.int .i64 (x k).bal,.int .i64 (x k).ix,.int .i64 (x k).kn,.string (x k).text,.slice ah (x k).n ch]=vs
 have hlen:vs.length=8:=by rw [←hvs];rfl
 have hF:=Zx g vs (k*8) w1
 have hin:=World.cell?_setCells_in g vs (k*8) w1 (fun j hj=>by
  obtain ⟨u,hu⟩:=hR.has (k*8+j) (by omega)
  rw [hu];rfl)
 refine ⟨fun i=>if i≤k then r i else w1.1.size,hR.setCells vs (by omega),by simpa using h.r0,fun i hi=>?_,?_,lrf _,fun i hi=>?_⟩
 ·by_cases e:i<k
  ·rw [if_pos (by omega),if_pos (by omega)];exact h.mono i e
  ·have:i=k:=by omega
   subst this
   rw [if_pos (by omega),if_neg (by omega)];exact ltr h.rn hb.size
 ·rw [if_neg (by omega),ZB];exact lrf _
 ·by_cases e:i<k
  ·obtain ⟨ah',ch',c,s⟩:=h.at_ i e
   refine ⟨ah',ch',?_,?_⟩
   ·refine (c.below hb hg).fr (fun j hj=>?_)
    exact World.cell?_setCells_out g vs (k*8) w1 _ (fun _ _=>Or.inl (by show i*8+j<k*8;omega))
   ·rw [if_pos (by omega),if_pos (by omega)]
    have h1:r (i+1)≤wr.1.size:=ltr (Xh h.mono (by omega) (lrf _)) h.rn
    have h2:g<r i:=ltl h.r0 (Xh h.mono (zle _) (by omega))
    exact (s.fr (Fr.of_below (lo:=0) (hi:=0) hb) (Or.inr (zle _))).fr hF (Or.inr (by omega))
  ·have:i=k:=by omega
   subst this
   refine ⟨ah,ch,?_,?_⟩
   ·have f:=fun j (hj:j<8)=>hin j (by omega)
    have f0:=f 0 (by omega);have f1:=f 1 (by omega);have f2:=f 2 (by omega);have f3:=f 3 (by omega);have f4:=f 4 (by omega);have f5:=f 5 (by omega);have f6:=f 6 (by omega);have f7:=f 7 (by omega)
    subst hvs
    exact ⟨f0,f1,f2,f3,f4,f5,f6,f7⟩
   ·rw [if_pos (by omega),if_neg (by omega)]
    exact (hs.fr hF (Or.inr (by omega))).mono h.rn (lrf _)
theorem MssOwn.start {w1:World} {g n:Nat} (x:Nat→Ms) (h:Room w1 g (n*8)):MssOwn w1 g w1.1.size 0 n x (fun _=>g+1):=
 ⟨h,Nat.lt_succ_self _,fun _ h=>absurd h (nlz _),h.lt,lrf _,fun _ h=>absurd h (nlz _)⟩
theorem toMss_any (n:Nat) (x:Nat→Ms) (ad:Option Addr) (cap:Nat) (w:World) (lo hi:Nat) (hhi:hi≤w.1.size) (hl:(n:Int)≤1048576) (hf:∀ i,i<n→((x i).n:Int)≤1048576) (hc:MssIn w lo hi ad n x) :
  Calls Tryz.prog 42 #[.slice ad n cap] w fun e w'=>∃ r,e=.returned (.slice (some ⟨w.1.size,0,none⟩) n n)∧MssOwn w' w.1.size w'.1.size n n x r∧Below w.1.size w w':=by
 obtain ⟨i0,hi0,hz0,hz1,hz2⟩:=info_parts Tryz.info52
 go_enter Tryz.func42,Tryz.ntmps42
 go_wp2_with (first
  | (at_make;refine wpList_make_full _ rfl _ _ 35 rfl w.1.size 52 i0 _ 8 Tryz.underlying35 hi0 hz0 hz1 .i64 .i64 _ _ n rfl rfl (by omega) (by omega) (by rw [hz2];omega) (by unfold maxLen;omega) (by omega) ?_;intro w1 hown1 hgrow1)
  )
 have r1:=MssOwn.start x (YM hown1)
 have hb1:Below w.1.size w w1:=(br _ _).grown hgrow1 (lrf _) (by simp)
 clear hown1 hgrow1 hi0 hz0 hz1 hz2
 go_loopw [4] (fun i wr=>∃ k:Nat,k≤n∧i=.int .i64 k∧Below w.1.size w wr∧∃ r,MssOwn wr w.1.size wr.1.size k n x r) (fun i _=>n-(intOf i).toNat)
 case atStart=>exact ⟨0,zle _,rfl,hb1,_,r1⟩
 case round=>
  obtain ⟨k,hk,rfl,hb,r,ho⟩:=hrel
  clear r1 hb1
  by_cases hkn:k<n
  ·obtain ⟨b,off,ah,ch,rfl,hlo,hbh,hcx,hsx⟩:=hc k hkn
   have hfk:=hf k hkn
   obtain ⟨d0,d1,d2,d3,d4,d5,d6,d7⟩:=hcx.below hb (by omega)
   have hsx':=hsx.below hb hhi
   clear hc hf hcx hsx
   have HO:=hid ho
   have hrm:=ho.room
   clear ho
   go_wp2_with (fail)
   refine (toMs_any' (x k) ah ch wr lo hi (ltr hhi hb.size) (by omega) hsx').mono ?_
   rintro e w1 ⟨ah',ch',rfl,hown,hb1⟩
   obtain ⟨r',R⟩:=HO.out.step hkn hb1 (ch:=ch') hown
   have HR:=hid R
   have HB:=hid ((hb.trans (hb1.mono hb.size)).trans ((Zx w.1.size [Value.int .i64 (x k).kind,.int .i64 (x k).from_,.int .i64 (x k).to,.int .i64 (x k).bal,.int .i64 (x k).ix,.int .i64 (x k).kn,.string (x k).text,.slice ah' (x k).n ch'] (k*8) w1).below (lrf _) (hb.trans (hb1.mono hb.size)).size))
   have hrm1:=hrm.below hb1 hrm.lt
   obtain ⟨_,q0⟩:=hrm1.has (k*8) (by omega)
   obtain ⟨_,q1⟩:=hrm1.has (k*8+1) (by omega)
   obtain ⟨_,q2⟩:=hrm1.has (k*8+2) (by omega)
   obtain ⟨_,q3⟩:=hrm1.has (k*8+3) (by omega)
   obtain ⟨_,q4⟩:=hrm1.has (k*8+4) (by omega)
   obtain ⟨_,q5⟩:=hrm1.has (k*8+5) (by omega)
   obtain ⟨_,q6⟩:=hrm1.has (k*8+6) (by omega)
   obtain ⟨_,q7⟩:=hrm1.has (k*8+7) (by omega)
   have qf:=hrm1.free
   clear hrm hrm1 R HO d0 d1 d2 d3 d4 d5 d6 d7 hsx' hown
   go_wp2
   go_roundw
   case rel=>exact ⟨k+1,by omega,by go_num,HB.out,r',HR.out⟩
   case measure=>simp [intOf];omega
  ·have:k=n:=by omega
   subst this
   have HO:=hid ho
   clear hc hf ho
   go_wp2
   go_ret
   exact ⟨r,rfl,HO.out,hb⟩
theorem MssOwn.fr {w w':World} {g hi n m lo2 hi2:Nat} {x:Nat→Ms} {r:Nat→Nat} (h:MssOwn w g hi n m x r) (hb:Fr lo2 hi2 w w') (ho:hi≤lo2∨hi2≤g):MssOwn w' g hi n m x r:=by
 have hg:g<hi:=ltl h.r0 (ltr (Xh h.mono (zle _) (lrf _)) h.rn)
 have hc:∀ j,w'.cell? ⟨g,j,none⟩=w.cell? ⟨g,j,none⟩:=fun j=>hb.cell (p:=⟨g,j,none⟩) (ltl hg h.hi) (by show g<_∨_≤g;omega)
 refine ⟨⟨fun j hj=>?_,fun j=>(hb.frozen (p:=⟨g,j,none⟩) (ltl hg h.hi) (by show g<_∨_≤g;omega)).trans (h.room.free j),ltl h.room.lt hb.size⟩,h.r0,h.mono,h.rn,ltr h.hi hb.size,fun i hi'=>?_⟩
 ·obtain ⟨u,hu⟩:=h.room.has j hj;exact ⟨u,(hc j).trans hu⟩
 ·obtain ⟨ah,ch,c,s⟩:=h.at_ i hi'
  have h1:r (i+1)≤hi:=ltr (Xh h.mono (by omega) (lrf _)) h.rn
  have h2:g<r i:=ltl h.r0 (Xh h.mono (zle _) (by omega))
  exact ⟨ah,ch,c.fr (fun j _=>hc _),s.fr hb (by omega)⟩
theorem apK5 {P:Prop} (h:P:=by
  obtain ⟨ah,ch,c,s⟩:=h.at_ i hi'
  have h1:r (i+1)≤hi:=ltr (Xh h.mono (by omega) (lrf _)) h.rn
  have h2:g<r i:=ltl h.r0 (Xh h.mono (zle _) (by omega))
  have h3:r i≤r (i+1):=h.mono i hi'
  exact ⟨g,0,ah,ch,rfl,hlo,by omega,by rw [Nat.zero_add];exact c,s.isIn.mono (by omega) (by omega)⟩):P:=h
theorem MssOwn.isIn {w:World} {g hi n:Nat} {x:Nat→Ms} {r:Nat→Nat} (h:MssOwn w g hi n n x r) {lo hi2:Nat} (hlo:lo≤g) (hh:hi≤hi2):MssIn w lo hi2 (some ⟨g,0,none⟩) n x:=fun i hi'=>by
 exact apK5
theorem eqMss_any (n:Nat) (x:Nat→Ms) (ad ad2:Option Addr) (cap cap2:Nat) (w:World) (lo hi lo2 hi2:Nat) (hh:hi≤w.1.size) (hh2:hi2≤w.1.size) (hl:(n:Int)≤140737488355328) (hf:∀ i,i<n→((x i).n:Int)≤140737488355328)
  (hc:MssIn w lo hi ad n x) (hc2:MssIn w lo2 hi2 ad2 n x) :
  Calls Tryz.prog 11 #[.slice ad n cap,.slice ad2 n cap2] w fun e w'=>e=.returned (.bool true)∧Below w.1.size w w':=by
 go_enter Tryz.func11,Tryz.ntmps11
 go_wp2
 go_loopw [5] (fun i wr=>∃ k:Nat,k≤n∧i=.int .i64 k∧Below w.1.size w wr) (fun i _=>n-(intOf i).toNat)
 case atStart=>exact ⟨0,zle _,rfl,br _ _⟩
 case round=>
  obtain ⟨k,hk,rfl,hb⟩:=hrel
  by_cases hkn:k<n
  ·obtain ⟨b,off,ah,ch,rfl,hlo,hbh,hcx,hsx⟩:=hc k hkn
   obtain ⟨b2,off2,ah2,ch2,rfl,hlo2,hbh2,hcx2,hsx2⟩:=hc2 k hkn
   have hfk:=hf k hkn
   obtain ⟨d0,d1,d2,d3,d4,d5,d6,d7⟩:=hcx.below hb (by omega)
   obtain ⟨e0,e1,e2,e3,e4,e5,e6,e7⟩:=hcx2.below hb (by omega)
   have hs:=hsx.below hb hh
   have hs2:=hsx2.below hb hh2
   have hw1:=ltr hh hb.size
   have hw2:=ltr hh2 hb.size
   clear hc hc2 hf hcx hcx2 hsx hsx2
   generalize x k=y at *
   go_wp2
   go_region_with (go_at_call 20;refine (eqMs_any y ah ah2 ch ch2 _ lo hi lo2 hi2 (by exact hw1) (by exact hw2) hfk (by exact hs.drewN 1) (by exact hs2.drewN 1)).mono ?_;rintro e w1 ⟨rfl,hb1⟩)
   all_goals
    go_wp2
    exact apK9
  ·have:k=n:=by omega
   subst this
   clear hc hc2
   go_wp2
   go_ret
   exact ⟨rfl,hb⟩
structure AkCells (w:World) (b o:Nat) (x:Ak) (ad:Option Addr) (cap:Nat):Prop where
 c0:w.cell? ⟨b,o,none⟩=some (.int .i64 x.ix)
 c1:w.cell? ⟨b,o+1,none⟩=some (.slice ad x.n cap)
def AksIn (w:World) (lo hi:Nat) (ad:Option Addr) (n:Nat) (x:Nat→Ak):Prop:=
 ∀ i,i<n→∃ b off ah ch,ad=some ⟨b,off,none⟩∧lo≤b∧b<hi∧AkCells w b (off+i*2) (x i) ah ch∧IntsIn w lo hi ah (x i).n (x i).s
theorem AkCells.below {w w':World} {B b o:Nat} {x:Ak} {ad:Option Addr} {cap:Nat} (h:AkCells w b o x ad cap) (hb:Below B w w') (hB:b<B):AkCells w' b o x ad cap:=
 ⟨(hb.cell (p:=⟨b,o,none⟩) hB).trans h.c0,(hb.cell (p:=⟨b,o+1,none⟩) hB).trans h.c1⟩
theorem AksIn.below {w w':World} {B lo hi:Nat} {ad:Option Addr} {n:Nat} {x:Nat→Ak} (h:AksIn w lo hi ad n x) (hb:Below B w w') (hB:hi≤B):AksIn w' lo hi ad n x:=fun i hi'=>by
 obtain ⟨b,off,ah,ch,e1,e2,e3,e4,e5⟩:=h i hi'
 exact ⟨b,off,ah,ch,e1,e2,e3,e4.below hb (by omega),e5.below hb hB⟩
theorem AksIn.mono {w:World} {lo hi lo2 hi2:Nat} {ad:Option Addr} {n:Nat} {x:Nat→Ak} (h:AksIn w lo hi ad n x) (h1:lo2≤lo) (h2:hi≤hi2):AksIn w lo2 hi2 ad n x:=fun i hi'=>by
 obtain ⟨b,off,ah,ch,e1,e2,e3,e4,e5⟩:=h i hi'
 exact ⟨b,off,ah,ch,e1,by omega,by omega,e4,e5.mono h1 h2⟩
def Xb (n:Nat) (x:Nat→Ak):Nat:=n+Zz (fun i=>szAk (x i)) n
theorem szAks_any (n:Nat) (x:Nat→Ak) (ad:Option Addr) (cap:Nat) (left:Int) (w:World) (lo hi:Nat) (hhi:hi≤w.1.size) (hl:(n:Int)≤8796093022208) (h0:0≤left) (h1:left≤1048576) (hf:∀ i,i<n→AkFit (x i))
  (hc:AksIn w lo hi ad n x) :
  Calls Tryz.prog 29 #[.slice ad n cap,.int .i64 left] w fun e w'=>e=.returned (.int .i64 (Yb left (Xb n x)))∧Below w.1.size w w':=by
 by_cases hlt:left-n<0
 ·go_enter Tryz.func29,Tryz.ntmps29
  go_wp2
  go_ret
  exact ⟨ZE (ZH (by unfold Xb;omega)).symm,br _ _⟩
 ·go_enter Tryz.func29,Tryz.ntmps29
  go_wp2
  go_loopw [1,5] (fun t i wr=>∃ k:Nat,k≤n∧i=.int .i64 k∧t=.int .i64 (left-n-(Zz (fun i=>szAk (x i)) k:Nat))∧0≤left-n-(Zz (fun i=>szAk (x i)) k:Nat)∧Below w.1.size w wr) (fun _ i _=>n-(intOf i).toNat)
  case atStart=>exact ⟨0,zle _,rfl,by simp [Zz],by simp [Zz];omega,br _ _⟩
  case round=>
   obtain ⟨k,hk,rfl,rfl,hnn,hb⟩:=hrel
   have hst:Zz (fun i=>szAk (x i)) (k+1)=Zz (fun i=>szAk (x i)) k+szAk (x k):=rfl
   have hmo:k<n→Zz (fun i=>szAk (x i)) (k+1)≤Zz (fun i=>szAk (x i)) n:=fun h=>XQ _ h
   generalize hq:Zz (fun i=>szAk (x i)) k=q at *
   generalize hq1:Zz (fun i=>szAk (x i)) (k+1)=q1 at *
   by_cases hkn:k<n
   ·obtain ⟨b,off,ah,ch,rfl,hlo,hbh,hcx,hsx⟩:=hc k hkn
    have hmo:=hmo hkn
    have hfk:=hf k hkn
    have HS:Hid (q1=q+szAk (x k)):=hst
    have HQ:Hid (Zz (fun i=>szAk (x i)) (k+1)=q1):=hq1
    clear hst hq hq1 hc hf
    have hcell:∀ j,wr.cell? ⟨b,off+k*2+j,none⟩=w.cell? ⟨b,off+k*2+j,none⟩:=fun j=>hb.cell (p:=⟨b,off+k*2+j,none⟩) (by show b<_;omega)
    have hcell0:wr.cell? ⟨b,off+k*2,none⟩=w.cell? ⟨b,off+k*2,none⟩:=hb.cell (p:=⟨b,off+k*2,none⟩) (by show b<_;omega)
    obtain ⟨d0,d1⟩:=hcx
    rw [←hcell] at d1
    rw [←hcell0] at d0
    clear hcell hcell0
    have hsx':=hsx.below hb hhi
    clear hsx
    generalize x k=y at *
    clear hmo
    rename_i hmo
    go_wp2_with (go_at_call 74;refine (szAk_any y ah ch _ wr (by omega) (by omega) hfk).mono ?_;rintro e w1 ⟨rfl,hb1⟩)
    ·go_ret
     refine ⟨ZE (ZH ?_).symm,hb.trans (hb1.mono hb.size)⟩
     have:=HS.out
     have:=Yh (by assumption)
     have:=hmo hkn
     unfold Xb;omega
    ·exact apK1
   ·have:k=n:=by omega
    subst this
    clear hc hf hst hmo hq1
    have HQ:Hid (Zz (fun i=>szAk (x i)) k=q):=hq
    clear hq
    go_wp2
    go_ret
    refine ⟨ZE ?_,hb⟩
    have:=HQ.out
    rw [YK (by unfold Xb;omega)]
    unfold Xb;omega
theorem Tryz.info108:(Tryz.prog.info? 108).map (fun i=>(i.zero,i.size,i.bytes))=some (some (.agg #[.int .i64 0,.slice none 0 0]),2,32):=by kernel_rfl
structure AksOwn (w:World) (g hi n m:Nat) (x:Nat→Ak) (r:Nat→Nat):Prop where
 room:Room w g (m*2)
 r0:g<r 0
 mono:∀ i,i<n→r i≤r (i+1)
 rn:r n≤hi
 hi:hi≤w.1.size
 at_:∀ i,i<n→∃ ah ch,AkCells w g (i*2) (x i) ah ch∧IntsOwn w (r i) (r (i+1)) ah (x i).n (x i).s
theorem AkCells.fr {w w':World} {b o:Nat} {x:Ak} {ad:Option Addr} {cap:Nat} (h:AkCells w b o x ad cap) (e:∀ j,j<2→w'.cell? ⟨b,o+j,none⟩=w.cell? ⟨b,o+j,none⟩):AkCells w' b o x ad cap:=
 ⟨(e 0 (by omega)).trans h.c0,(e 1 (by omega)).trans h.c1⟩
theorem AksOwn.step {wr w1:World} {g k n:Nat} {x:Nat→Ak} {r:Nat→Nat} (h:AksOwn wr g wr.1.size k n x r) (hk:k<n) (hb:Below wr.1.size wr w1) {ah:Option Addr} {ch:Nat}
  (hs:IntsOwn w1 wr.1.size w1.1.size ah (x k).n (x k).s) :
  ∃ r',AksOwn (w1.setCells g (k*2) [.int .i64 (x k).ix,.slice ah (x k).n ch]) g (w1.setCells g (k*2) [.int .i64 (x k).ix,.slice ah (x k).n ch]).1.size (k+1) n x r':=by
 have hg:=h.room.lt
 have hR:=h.room.below hb hg
 generalize hvs:[Value.int .i64 (x k).ix,.slice ah (x k).n ch]=vs
 have hlen:vs.length=2:=by rw [←hvs];rfl
 have hF:=Zx g vs (k*2) w1
 have hin:=World.cell?_setCells_in g vs (k*2) w1 (fun j hj=>by
  obtain ⟨u,hu⟩:=hR.has (k*2+j) (by omega)
  rw [hu];rfl)
 refine ⟨fun i=>if i≤k then r i else w1.1.size,hR.setCells vs (by omega),by simpa using h.r0,fun i hi=>?_,?_,lrf _,fun i hi=>?_⟩
 ·by_cases e:i<k
  ·rw [if_pos (by omega),if_pos (by omega)];exact h.mono i e
  ·have:i=k:=by omega
   subst this
   rw [if_pos (by omega),if_neg (by omega)];exact ltr h.rn hb.size
 ·rw [if_neg (by omega),ZB];exact lrf _
 ·by_cases e:i<k
  ·obtain ⟨ah',ch',c,s⟩:=h.at_ i e
   refine ⟨ah',ch',?_,?_⟩
   ·refine (c.below hb hg).fr (fun j hj=>?_)
    exact World.cell?_setCells_out g vs (k*2) w1 _ (fun _ _=>Or.inl (by show i*2+j<k*2;omega))
   ·rw [if_pos (by omega),if_pos (by omega)]
    have h1:r (i+1)≤wr.1.size:=ltr (Xh h.mono (by omega) (lrf _)) h.rn
    have h2:g<r i:=ltl h.r0 (Xh h.mono (zle _) (by omega))
    exact (s.fr (Fr.of_below (lo:=0) (hi:=0) hb) h1 (Or.inr (zle _))).fr hF (ltr h1 hb.size) (Or.inr (by omega))
  ·have:i=k:=by omega
   subst this
   refine ⟨ah,ch,?_,?_⟩
   ·have f:=fun j (hj:j<2)=>hin j (by omega)
    have f0:=f 0 (by omega);have f1:=f 1 (by omega)
    subst hvs
    exact ⟨f0,f1⟩
   ·rw [if_pos (by omega),if_neg (by omega)]
    exact (hs.fr hF (lrf _) (Or.inr (by omega))).mono h.rn (lrf _)
theorem AksOwn.start {w1:World} {g n:Nat} (x:Nat→Ak) (h:Room w1 g (n*2)):AksOwn w1 g w1.1.size 0 n x (fun _=>g+1):=
 ⟨h,Nat.lt_succ_self _,fun _ h=>absurd h (nlz _),h.lt,lrf _,fun _ h=>absurd h (nlz _)⟩
theorem toAks_any (n:Nat) (x:Nat→Ak) (ad:Option Addr) (cap:Nat) (w:World) (lo hi:Nat) (hhi:hi≤w.1.size) (hl:(n:Int)≤1048576) (hf:∀ i,i<n→((x i).n:Int)≤1048576) (hc:AksIn w lo hi ad n x) :
  Calls Tryz.prog 46 #[.slice ad n cap] w fun e w'=>∃ r,e=.returned (.slice (some ⟨w.1.size,0,none⟩) n n)∧AksOwn w' w.1.size w'.1.size n n x r∧Below w.1.size w w':=by
 obtain ⟨i0,hi0,hz0,hz1,hz2⟩:=info_parts Tryz.info108
 go_enter Tryz.func46,Tryz.ntmps46
 go_wp2_with (first
  | (at_make;refine wpList_make_full _ rfl _ _ 36 rfl w.1.size 108 i0 _ 2 Tryz.underlying36 hi0 hz0 hz1 .i64 .i64 _ _ n rfl rfl (by omega) (by omega) (by rw [hz2];omega) (by unfold maxLen;omega) (by omega) ?_;intro w1 hown1 hgrow1)
  )
 have r1:=AksOwn.start x (YM hown1)
 have hb1:Below w.1.size w w1:=(br _ _).grown hgrow1 (lrf _) (by simp)
 clear hown1 hgrow1 hi0 hz0 hz1 hz2
 go_loopw [4] (fun i wr=>∃ k:Nat,k≤n∧i=.int .i64 k∧Below w.1.size w wr∧∃ r,AksOwn wr w.1.size wr.1.size k n x r) (fun i _=>n-(intOf i).toNat)
 case atStart=>exact ⟨0,zle _,rfl,hb1,_,r1⟩
 case round=>
  obtain ⟨k,hk,rfl,hb,r,ho⟩:=hrel
  clear r1 hb1
  by_cases hkn:k<n
  ·obtain ⟨b,off,ah,ch,rfl,hlo,hbh,hcx,hsx⟩:=hc k hkn
   have hfk:=hf k hkn
   obtain ⟨d0,d1⟩:=hcx.below hb (by omega)
   have hsx':=hsx.below hb hhi
   clear hc hf hcx hsx
   have HO:=hid ho
   have hrm:=ho.room
   clear ho
   go_wp2_with (fail)
   refine (toAk_any (x k) ah ch wr lo hi (ltr hhi hb.size) (by omega) hsx').mono ?_
   rintro e w1 ⟨ah',ch',rfl,hown,hb1⟩
   obtain ⟨r',R⟩:=HO.out.step hkn hb1 (ch:=ch') hown
   have HR:=hid R
   have HB:=hid ((hb.trans (hb1.mono hb.size)).trans ((Zx w.1.size [Value.int .i64 (x k).ix,.slice ah' (x k).n ch'] (k*2) w1).below (lrf _) (hb.trans (hb1.mono hb.size)).size))
   have hrm1:=hrm.below hb1 hrm.lt
   obtain ⟨_,q0⟩:=hrm1.has (k*2) (by omega)
   obtain ⟨_,q1⟩:=hrm1.has (k*2+1) (by omega)
   have qf:=hrm1.free
   clear hrm hrm1 R HO d0 d1 hsx' hown
   go_wp2
   go_roundw
   case rel=>exact ⟨k+1,by omega,by go_num,HB.out,r',HR.out⟩
   case measure=>simp [intOf];omega
  ·have:k=n:=by omega
   subst this
   have HO:=hid ho
   clear hc hf ho
   go_wp2
   go_ret
   exact ⟨r,rfl,HO.out,hb⟩
theorem AksOwn.fr {w w':World} {g hi n m lo2 hi2:Nat} {x:Nat→Ak} {r:Nat→Nat} (h:AksOwn w g hi n m x r) (hb:Fr lo2 hi2 w w') (ho:hi≤lo2∨hi2≤g):AksOwn w' g hi n m x r:=by
 have hg:g<hi:=ltl h.r0 (ltr (Xh h.mono (zle _) (lrf _)) h.rn)
 have hc:∀ j,w'.cell? ⟨g,j,none⟩=w.cell? ⟨g,j,none⟩:=fun j=>hb.cell (p:=⟨g,j,none⟩) (ltl hg h.hi) (by show g<_∨_≤g;omega)
 refine ⟨⟨fun j hj=>?_,fun j=>(hb.frozen (p:=⟨g,j,none⟩) (ltl hg h.hi) (by show g<_∨_≤g;omega)).trans (h.room.free j),ltl h.room.lt hb.size⟩,h.r0,h.mono,h.rn,ltr h.hi hb.size,fun i hi'=>?_⟩
 ·obtain ⟨u,hu⟩:=h.room.has j hj;exact ⟨u,(hc j).trans hu⟩
 ·obtain ⟨ah,ch,c,s⟩:=h.at_ i hi'
  have h1:r (i+1)≤hi:=ltr (Xh h.mono (by omega) (lrf _)) h.rn
  have h2:g<r i:=ltl h.r0 (Xh h.mono (zle _) (by omega))
  exact ⟨ah,ch,c.fr (fun j _=>hc _),s.fr hb (ltr h1 h.hi) (by omega)⟩
theorem AksOwn.isIn {w:World} {g hi n:Nat} {x:Nat→Ak} {r:Nat→Nat} (h:AksOwn w g hi n n x r) {lo hi2:Nat} (hlo:lo≤g) (hh:hi≤hi2):AksIn w lo hi2 (some ⟨g,0,none⟩) n x:=fun i hi'=>by
 exact apK5
theorem eqAks_any (n:Nat) (x:Nat→Ak) (ad ad2:Option Addr) (cap cap2:Nat) (w:World) (lo hi lo2 hi2:Nat) (hh:hi≤w.1.size) (hh2:hi2≤w.1.size) (hl:(n:Int)≤140737488355328) (hf:∀ i,i<n→((x i).n:Int)≤140737488355328)
  (hc:AksIn w lo hi ad n x) (hc2:AksIn w lo2 hi2 ad2 n x) :
  Calls Tryz.prog 54 #[.slice ad n cap,.slice ad2 n cap2] w fun e w'=>e=.returned (.bool true)∧Below w.1.size w w':=by
 go_enter Tryz.func54,Tryz.ntmps54
 go_wp2
 go_loopw [5] (fun i wr=>∃ k:Nat,k≤n∧i=.int .i64 k∧Below w.1.size w wr) (fun i _=>n-(intOf i).toNat)
 case atStart=>exact ⟨0,zle _,rfl,br _ _⟩
 case round=>
  obtain ⟨k,hk,rfl,hb⟩:=hrel
  by_cases hkn:k<n
  ·obtain ⟨b,off,ah,ch,rfl,hlo,hbh,hcx,hsx⟩:=hc k hkn
   obtain ⟨b2,off2,ah2,ch2,rfl,hlo2,hbh2,hcx2,hsx2⟩:=hc2 k hkn
   have hfk:=hf k hkn
   obtain ⟨d0,d1⟩:=hcx.below hb (by omega)
   obtain ⟨e0,e1⟩:=hcx2.below hb (by omega)
   have hs:=hsx.below hb hh
   have hs2:=hsx2.below hb hh2
   have hw1:=ltr hh hb.size
   have hw2:=ltr hh2 hb.size
   clear hc hc2 hf hcx hcx2 hsx hsx2
   generalize x k=y at *
   go_wp2
   go_region_with (go_at_call 114;refine (eqAk_any y ah ah2 ch ch2 _ lo hi lo2 hi2 (by exact hw1) (by exact hw2) hfk (by exact hs.drewN 1) (by exact hs2.drewN 1)).mono ?_;rintro e w1 ⟨rfl,hb1⟩)
   all_goals
    go_wp2
    exact apK9
  ·have:k=n:=by omega
   subst this
   clear hc hc2
   go_wp2
   go_ret
   exact ⟨rfl,hb⟩
end Go.Proofs.YtokkbdlofbdljaaGreat
