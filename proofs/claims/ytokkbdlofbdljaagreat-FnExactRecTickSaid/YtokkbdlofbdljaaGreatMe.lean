import Derived.Test.YtokkbdlofbdljaaGreatS
import Derived.Laws.IdiomStrings
import Derived.Deep.RegionWith
namespace Go.Proofs.YtokkbdlofbdljaaGreat
open Go.RowKit
set_option maxRecDepth 100000
set_option maxHeartbeats 4000000
def mtGo:Nat→Nat→List UInt8→List UInt8
 | 0,_,acc=>acc
 | f+1,k,acc=>if k=0 then acc else mtGo f (k / 10) ((48+UInt8.ofNat (k % 10))::acc)
theorem mtGo_zero (f:Nat) (acc:List UInt8):mtGo f 0 acc=acc:=by cases f<;>simp [mtGo]
theorem mtGo_succ (f k:Nat) (acc:List UInt8) (h:k≤f) (hk:0<k):mtGo f k acc=mtGo (f-1) (k / 10) ((48+UInt8.ofNat (k % 10))::acc):=by
 obtain ⟨f,rfl⟩:∃ g,f=g+1:=⟨f-1,by omega⟩
 conv=>lhs;unfold mtGo
 rw [if_neg (by omega)];rfl
def mt (k:Nat):ByteArray:=⟨(109::mtGo k k []).toArray⟩
theorem mt_conv (w:World) (x:Int) (hx0:0≤x) (hx1:x<256):(convert 129 9 (Value.slice (some ⟨w.1.size,0,none⟩) 1 1)).run Tryz.prog (w.alloc (.cells #[.int .u8 x] 5))=.ok (.string ⟨#[UInt8.ofNat x.toNat]⟩) (w.alloc (.cells #[.int .u8 x] 5)):=by
 have:=run_convert_bytes_back (P:=Tryz.prog) (w.alloc (.cells #[.int .u8 x] 5)) 129 9 5 ⟨w.1.size,0,none⟩ 1 [UInt8.ofNat x.toNat] Tryz.underlying129 Tryz.underlying5 Tryz.underlying9 (by
  intro i hi
  have:i=0:=by simpa using hi
  subst this
  have e:((⟨w.1.size,0,none⟩:Addr).add 0)=⟨w.1.size,0,none⟩:=by simp [Addr.add]
  rw [e,World.cell?_alloc_new]
  simp
  omega)
 simpa using this
theorem XW (k:Nat) (w:World) (h1:1≤(k:Int)) (h2:(k:Int)≤1099511627776) :
  Calls Tryz.prog 60 #[.int .i64 k] w fun e w'=>e=.returned (.string (mt k))∧Below w.1.size w w':=by
 go_enter Tryz.func60,Tryz.ntmps60
 go_wp2
 go_loopw [0,3] (fun t o wr=>∃ (j f:Nat) (acc:List UInt8),t=.int .i64 j∧o=.string ⟨acc.toArray⟩∧j≤f∧acc.length+j≤k∧mtGo f j acc=mtGo k k []∧Below w.1.size w wr) (fun t _ _=>(intOf t).toNat)
 case atStart=>exact ⟨k,k,[],rfl,rfl,lrf _,by simp,rfl,br _ _⟩
 case round=>
  obtain ⟨j,f,acc,rfl,rfl,hjf,hal,hgo,hb⟩:=hrel
  have HG:=hid hgo
  clear hgo
  have hsz:((⟨acc.toArray⟩:ByteArray).size)=acc.length:=by simp [ByteArray.size]
  by_cases hj0:0<(j:Int)
  ·have hcv':=mt_conv wr (48+(j:Int) % 10) (by omega) (by omega)
   go_wp2
   go_roundw
   case rel=>exact ⟨j / 10,f-1,_::acc,by go_num,rfl,by omega,by simp;omega,by rw [←HG.out,mtGo_succ f j acc hjf (by omega)],hb.alloc hb.size _⟩
   case measure=>simp [intOf];omega
  ·have hj:j=0:=by omega
   subst hj
   have HG2:Hid (acc=mtGo k k []):=by have:=HG.out;rw [mtGo_zero] at this;exact this
   clear HG
   go_wp2
   go_ret
   refine ⟨?_,hb⟩
   rw [mt,←HG2.out]
   exact congrArg (fun x=>Ending.returned (Value.string x)) rfl
theorem markStep {wr w1:World} {lo hi b off n k k0:Nat} {s:Nat→ByteArray} (hown:StrsOwn wr lo hi (some ⟨b,off,none⟩) n (fun i=>if i<k then mt (k0+i) else s i)) (hb1:Below wr.1.size wr w1) (hhi:hi≤wr.1.size) (hkn:k<n) {u:Value} (hu:w1.cell? ⟨b,off+k,none⟩=some u) :
  StrsOwn (w1.setCell ⟨b,off+k,none⟩ (.string (mt (k0+k)))) lo hi (some ⟨b,off,none⟩) n (fun i=>if i<k+1 then mt (k0+i) else s i):=by
 intro i hi'
 obtain ⟨b',off',e,e1,e2,e3,e4⟩:=hown i hi'
 cases e
 refine ⟨b,off,rfl,e1,e2,?_,by rw [World.frozen?_setCell,hb1.frozen (p:=⟨b,off+i,none⟩) (ltl e2 hhi)];exact e4⟩
 by_cases e:i=k
 ·subst e
  rw [World.cell?_setCell_same _ _ _ hu];dsimp only;rw [if_pos (by omega)]
 ·rw [World.cell?_setCell_other _ _ _ _ (fun h=>e (by injection h;omega)),hb1.cell (p:=⟨b,off+i,none⟩) (ltl e2 hhi),e3]
  dsimp only
  by_cases h:i<k
  ·rw [if_pos h,if_pos (by omega)]
  ·rw [if_neg h,if_neg (by omega)]
theorem J1 (n:Nat) (s:Nat→ByteArray) (ad:Option Addr) (cap k0:Nat) (w:World) (lo hi:Nat) (hhi:hi≤w.1.size) (hl:(n:Int)≤1073741824) (hk1:1≤(k0:Int)) (hk2:(k0:Int)≤1073741824)
  (hc:StrsOwn w lo hi ad n s) :
  Calls Tryz.prog 56 #[.slice ad n cap,.int .i64 k0] w fun e w'=>e=.returned (.int .i64 (k0+n:Nat))∧StrsOwn w' lo hi ad n (fun i=>mt (k0+i))∧Fr lo hi w w':=by
 go_enter Tryz.func56,Tryz.ntmps56
 go_wp2
 go_loopw [1,5] (fun t i wr=>∃ k:Nat,k≤n∧i=.int .i64 k∧t=.int .i64 (k0+k:Nat)∧Fr lo hi w wr∧StrsOwn wr lo hi ad n (fun i=>if i<k then mt (k0+i) else s i)) (fun _ i _=>n-(intOf i).toNat)
 case atStart=>exact ⟨0,zle _,rfl,rfl,Fr.refl _ _ _,by simpa using hc⟩
 case round=>
  obtain ⟨k,hk,rfl,rfl,hfr,hown⟩:=hrel
  clear hc
  by_cases hkn:k<n
  ·obtain ⟨b,off,rfl,hlo,hbh,hcx,hfx⟩:=hown k hkn
   go_wp2_with (go_at_call 60;refine (XW (k0+k) _ (by omega) (by omega)).mono ?_;rintro e w1 ⟨rfl,hb1⟩;have hcx1:=(hb1.cell (p:=⟨b,off+k,none⟩) (ltl hbh (ltr hhi hfr.size))).trans hcx;have hfx1:=(hb1.frozen (p:=⟨b,off+k,none⟩) (ltl hbh (ltr hhi hfr.size))).trans hfx)
   go_roundw
   case rel=>exact ⟨k+1,by omega,by go_num,by go_num,(hfr.trans (Fr.of_below hb1)).setCell hlo hbh _,markStep hown hb1 (ltr hhi hfr.size) hkn hcx1⟩
   case measure=>simp [intOf];omega
  ·have:k=n:=by omega
   subst this
   have HR:Hid (StrsOwn wr lo hi ad k (fun i=>mt (k0+i))):=fun i hi'=>by
    have:=hown i hi'
    dsimp only at this
    rwa [if_pos hi'] at this
   clear hown
   go_wp2
   go_ret
   exact ⟨rfl,HR.out,hfr⟩
theorem J8 (n:Nat) (ad:Option Addr) (cap k0:Nat) (w:World) (lo hi:Nat) (hhi:hi≤w.1.size) (hl:(n:Int)≤1073741824) (hk1:1≤(k0:Int)) (hk2:(k0:Int)≤1073741824)
  (hc:StrsOwn w lo hi ad n (fun i=>mt (k0+i))) :
  Calls Tryz.prog 62 #[.slice ad n cap,.int .i64 k0] w fun e w'=>e=.returned (.int .i64 (k0+n:Nat))∧Below w.1.size w w':=by
 go_enter Tryz.func62,Tryz.ntmps62
 go_wp2
 go_loopw [1,5] (fun t i wr=>∃ k:Nat,k≤n∧i=.int .i64 k∧t=.int .i64 (k0+k:Nat)∧Below w.1.size w wr) (fun _ i _=>n-(intOf i).toNat)
 case atStart=>exact ⟨0,zle _,rfl,rfl,br _ _⟩
 case round=>
  obtain ⟨k,hk,rfl,rfl,hb⟩:=hrel
  by_cases hkn:k<n
  ·obtain ⟨b,off,rfl,hlo,hbh,hcx,hfx⟩:=hc k hkn
   clear hc hfx
   have hcx1:wr.cell? ⟨b,off+k,none⟩=some (.string (mt (k0+k))):=(hb.cell (p:=⟨b,off+k,none⟩) (by show b<_;omega)).trans hcx
   clear hcx
   go_wp2
   go_region_with (go_at_call 60;refine (XW (k0+k) _ (by omega) (by omega)).mono ?_;rintro e w1 ⟨rfl,hb1⟩;have hcx2:=(hb1.cell (p:=⟨b,off+k,none⟩) (ltl hbh (ltr hhi hb.size))).trans hcx1)
   all_goals
    go_wp2
    go_roundw
    case rel=>exact ⟨k+1,by omega,by go_num,by go_num,hb.drew.trans (hb1.mono hb.size)⟩
    case measure=>simp [intOf];omega
  ·have:k=n:=by omega
   subst this
   clear hc
   go_wp2
   go_ret
   exact ⟨rfl,hb⟩
structure FrP (P:Nat→Prop) (w w':World):Prop where
 os:w'.os=w.os
 tape:w'.tape=w.tape
 output:w'.output=w.output
 size:w.1.size≤w'.1.size
 block:∀ k,k<w.1.size→¬P k→w'.heap[k]? = w.heap[k]?
theorem FrP.refl (P:Nat→Prop) (w:World):FrP P w w:=⟨rfl,rfl,rfl,lrf _,fun _ _ _=>rfl⟩
theorem FrP.trans {P:Nat→Prop} {a b c:World} (h:FrP P a b) (k:FrP P b c):FrP P a c:=
 ⟨k.os.trans h.os,k.tape.trans h.tape,k.output.trans h.output,ltr h.size k.size,fun i hi ho=>(k.block i (ltl hi h.size) ho).trans (h.block i hi ho)⟩
theorem FrP.of_below {P:Nat→Prop} {w w':World} (h:Below w.1.size w w'):FrP P w w':=⟨h.os,h.tape,h.output,h.size,fun i hi _=>h.block i hi⟩
theorem FrP.mono {P Q:Nat→Prop} {w w':World} (h:FrP P w w') (e:∀ k,P k→Q k):FrP Q w w':=⟨h.os,h.tape,h.output,h.size,fun i hi hq=>h.block i hi (fun hp=>hq (e i hp))⟩
theorem FrP.setCell {P:Nat→Prop} {a w:World} (h:FrP P a w) {p:Addr} (hp:P p.block) (u:Value):FrP P a (w.setCell p u):=
 h.trans ⟨rfl,rfl,rfl,by simp [World.setCell],fun k _ ho=>Below.heap_setCell _ _ _ _ (fun e=>ho (e▸hp))⟩
theorem FrP.cell {P:Nat→Prop} {w w':World} (h:FrP P w w') {p:Addr} (hp:p.block<w.1.size) (ho:¬P p.block):w'.cell? p=w.cell? p:=World.cell?_of_block (w:=w) (h.block p.block hp ho)
theorem FrP.frozen {P:Nat→Prop} {w w':World} (h:FrP P w w') {p:Addr} (hp:p.block<w.1.size) (ho:¬P p.block):w'.frozen? p=w.frozen? p:=World.frozen?_of_block (w:=w) (h.block p.block hp ho)
theorem FrP.below {P:Nat→Prop} {w w':World} (h:FrP P w w') {B:Nat} (hB:∀ k,k<B→¬P k) (hs:B≤w.1.size):Below B w w':=⟨h.os,h.tape,h.output,h.size,fun k hk=>h.block k (by omega) (hB k hk)⟩
theorem FrP.of_fr {P:Nat→Prop} {lo hi:Nat} {w w':World} (h:Fr lo hi w w') (e:∀ k,lo≤k→k<hi→P k):FrP P w w':=⟨h.os,h.tape,h.output,h.size,fun k hk ho=>h.block k hk (by
 rcases Nat.lt_or_ge k lo with h1|h1
 ·exact Or.inl h1
 ·rcases Nat.lt_or_ge k hi with h2|h2
  ·exact absurd (e k h1 h2) ho
  ·exact Or.inr h2)⟩
theorem FrP.link {P Q:Nat→Prop} {a b c:World} (h:FrP P a b) (_:FrP Q b c):FrP P a b:=h
structure RowF (w:World) (g m:Nat) (c:Nat→Value):Prop where
 lt:g<w.1.size
 free:∀ j,w.frozen? ⟨g,j,none⟩=false
 cell:∀ j,j<m→w.cell? ⟨g,j,none⟩=some (c j)
def setF (c:Nat→Value) (o:Nat) (v:Value):Nat→Value:=fun j=>if j=o then v else c j
theorem RowF.set {w:World} {g m:Nat} {c:Nat→Value} (h:RowF w g m c) {o:Nat} (ho:o<m) (v:Value):RowF (w.setCell ⟨g,o,none⟩ v) g m (setF c o v):=
 ⟨by rw [World.size_setCell];exact h.lt,fun j=>by rw [World.frozen?_setCell];exact h.free j,fun j hj=>by
  unfold setF
  by_cases e:j=o
  ·subst e;rw [if_pos rfl];exact World.cell?_setCell_same _ _ _ (h.cell j hj)
  ·rw [if_neg e,World.cell?_setCell_other _ _ _ _ (fun q=>e (by injection q with _ q2;exact q2.symm))];exact h.cell j hj⟩
theorem RowF.below {w w':World} {g m B:Nat} {c:Nat→Value} (h:RowF w g m c) (hb:Below B w w') (hB:g<B):RowF w' g m c:=
 ⟨ltl h.lt hb.size,fun j=>(hb.frozen (p:=⟨g,j,none⟩) hB).trans (h.free j),fun j hj=>(hb.cell (p:=⟨g,j,none⟩) hB).trans (h.cell j hj)⟩
theorem RowF.fr {w w':World} {g m:Nat} {c:Nat→Value} {P:Nat→Prop} (h:RowF w g m c) (hb:FrP P w w') (hg:¬P g):RowF w' g m c:=
 ⟨ltl h.lt hb.size,fun j=>(hb.frozen (p:=⟨g,j,none⟩) h.lt hg).trans (h.free j),fun j hj=>(hb.cell (p:=⟨g,j,none⟩) h.lt hg).trans (h.cell j hj)⟩
theorem apMe0 {P:Prop} (h:P:=by
  obtain ⟨q,off,e1,e2,e3,e4,e5⟩:=h i hi
  have:q=b:=by omega
  subst this
  obtain ⟨h1,h2⟩:=hn (by omega)
  exact ⟨q,off,e1,e2,e3,(hb.cell (p:=⟨q,off+i,none⟩) h2 h1).trans e4,(hb.frozen (p:=⟨q,off+i,none⟩) h2 h1).trans e5⟩):P:=h
theorem StrsOwn.frP {w w':World} {b:Nat} {ad:Option Addr} {n:Nat} {s:Nat→ByteArray} {P:Nat→Prop} (h:StrsOwn w b (b+1) ad n s) (hb:FrP P w w') (hn:n≠0→¬P b∧b<w.1.size):StrsOwn w' b (b+1) ad n s:=fun i hi=>by
 exact apMe0
theorem XE (k:Int) (m:Nat) (hk:k=m) (w:World) (h1:1≤k) (h2:k≤1099511627776) :
  Calls Tryz.prog 60 #[.int .i64 k] w fun e w'=>e=.returned (.string (mt m))∧Below w.1.size w w':=by
 subst hk
 exact XW m w h1 h2
theorem markStrs_own (n:Nat) (s:Nat→ByteArray) (ad:Option Addr) (cap:Nat) (k:Int) (m:Nat) (hk:k=m) (w:World) (b:Nat) (hlt:n≠0→b<w.1.size) (hl:(n:Int)≤1073741824) (hk1:1≤k) (hk2:k≤1073741824)
  (hc:StrsOwn w b (b+1) ad n s) :
  Calls Tryz.prog 56 #[.slice ad n cap,.int .i64 k] w fun e w'=>e=.returned (.int .i64 (k+n))∧StrsOwn w' b (b+1) ad n (fun i=>mt (m+i))∧FrP (fun q=>n≠0∧q=b) w w':=by
 subst hk
 by_cases h0:n=0
 ·subst h0
  exact (J1 0 s ad cap m w 0 0 (zle _) hl hk1 hk2 (fun i hi=>absurd hi (nlz _))).mono fun e w' ⟨e1,_,e3⟩=>⟨e1,fun i hi=>absurd hi (nlz _),FrP.of_fr e3 (fun k h1 h2=>absurd h2 (nlz _))⟩
 ·exact (J1 n s ad cap m w b (b+1) (hlt h0) hl hk1 hk2 hc).mono fun e w' ⟨e1,e2,e3⟩=>⟨e1,e2,FrP.of_fr e3 (fun k h1 h2=>⟨h0,by omega⟩)⟩
theorem heldStrs_own (n:Nat) (ad:Option Addr) (cap:Nat) (k:Int) (m:Nat) (hk:k=m) (w:World) (b:Nat) (hlt:n≠0→b<w.1.size) (hl:(n:Int)≤1073741824) (hk1:1≤k) (hk2:k≤1073741824)
  (hc:StrsOwn w b (b+1) ad n (fun i=>mt (m+i))) :
  Calls Tryz.prog 62 #[.slice ad n cap,.int .i64 k] w fun e w'=>e=.returned (.int .i64 (k+n))∧Below w.1.size w w':=by
 subst hk
 by_cases h0:n=0
 ·subst h0
  exact J8 0 ad cap m w 0 0 (zle _) hl hk1 hk2 (fun i hi=>absurd hi (nlz _))
 ·exact J8 n ad cap m w b (b+1) (hlt h0) hl hk1 hk2 hc
structure ApartH (g n:Nat) (N:Nat→Nat) (hb:Nat→Nat):Prop where
 ne:∀ i,i<n→N i≠0→hb i≠g
 inj:∀ i j,i<n→j<n→N i≠0→N j≠0→hb i=hb j→i=j
theorem ApartH.congr {g n:Nat} {N N':Nat→Nat} {hb:Nat→Nat} (h:ApartH g n N hb) (e:∀ i,N i=N' i):ApartH g n N' hb:=by
 have:N=N':=funext e
 subst this;exact h
def blkH (g n:Nat) (N:Nat→Nat) (hb:Nat→Nat) (k:Nat):Prop:=(0<n∧k=g)∨∃ i,i<n∧N i≠0∧k=hb i
theorem markStepI {wr:World} {lo hi b off n k k0:Nat} {s:Nat→Int} (hown:IntsOwn wr lo hi (some ⟨b,off,none⟩) n (fun i=>if i<k then (k0+i:Nat) else s i)) {u:Value} (hu:wr.cell? ⟨b,off+k,none⟩=some u) :
  IntsOwn (wr.setCell ⟨b,off+k,none⟩ (.int .i64 (k0+k:Nat))) lo hi (some ⟨b,off,none⟩) n (fun i=>if i<k+1 then (k0+i:Nat) else s i):=by
 intro i hi'
 obtain ⟨b',off',e,e1,e2,e3,e4⟩:=hown i hi'
 cases e
 refine ⟨b,off,rfl,e1,e2,?_,by rw [World.frozen?_setCell];exact e4⟩
 by_cases e:i=k
 ·subst e
  rw [World.cell?_setCell_same _ _ _ hu];dsimp only;rw [if_pos (by omega)]
 ·rw [World.cell?_setCell_other _ _ _ _ (fun h=>e (by injection h;omega)),e3]
  dsimp only
  by_cases h:i<k
  ·rw [if_pos h,if_pos (by omega)]
  ·rw [if_neg h,if_neg (by omega)]
theorem J3 (n:Nat) (s:Nat→Int) (ad:Option Addr) (cap k0:Nat) (w:World) (lo hi:Nat) (_hhi:hi≤w.1.size) (hl:(n:Int)≤1073741824) (hk1:1≤(k0:Int)) (hk2:(k0:Int)≤1073741824)
  (hc:IntsOwn w lo hi ad n s) :
  Calls Tryz.prog 57 #[.slice ad n cap,.int .i64 k0] w fun e w'=>e=.returned (.int .i64 (k0+n:Nat))∧IntsOwn w' lo hi ad n (fun i=>(k0+i:Nat))∧Fr lo hi w w':=by
 go_enter Tryz.func57,Tryz.ntmps57
 go_wp2
 go_loopw [1,5] (fun t i wr=>∃ k:Nat,k≤n∧i=.int .i64 k∧t=.int .i64 (k0+k:Nat)∧Fr lo hi w wr∧IntsOwn wr lo hi ad n (fun i=>if i<k then (k0+i:Nat) else s i)) (fun _ i _=>n-(intOf i).toNat)
 case atStart=>exact ⟨0,zle _,rfl,rfl,Fr.refl _ _ _,by simpa using hc⟩
 case round=>
  obtain ⟨k,hk,rfl,rfl,hfr,hown⟩:=hrel
  clear hc
  by_cases hkn:k<n
  ·obtain ⟨b,off,rfl,hlo,hbh,hcx,hfx⟩:=hown k hkn
   go_wp2
   go_roundw
   case rel=>exact ⟨k+1,by omega,by go_num,by go_num,hfr.setCell hlo hbh _,markStepI hown hcx⟩
   case measure=>simp [intOf];omega
  ·have:k=n:=by omega
   subst this
   have HR:Hid (IntsOwn wr lo hi ad k (fun i=>(k0+i:Nat))):=fun i hi'=>by
    have:=hown i hi'
    dsimp only at this
    rwa [if_pos hi'] at this
   clear hown
   go_wp2
   go_ret
   exact ⟨rfl,HR.out,hfr⟩
theorem Ka (n:Nat) (ad:Option Addr) (cap k0:Nat) (w:World) (lo hi:Nat) (hhi:hi≤w.1.size) (hl:(n:Int)≤1073741824) (hk1:1≤(k0:Int)) (hk2:(k0:Int)≤1073741824)
  (hc:IntsOwn w lo hi ad n (fun i=>(k0+i:Nat))) :
  Calls Tryz.prog 63 #[.slice ad n cap,.int .i64 k0] w fun e w'=>e=.returned (.int .i64 (k0+n:Nat))∧Below w.1.size w w':=by
 go_enter Tryz.func63,Tryz.ntmps63
 go_wp2
 go_loopw [1,5] (fun t i wr=>∃ k:Nat,k≤n∧i=.int .i64 k∧t=.int .i64 (k0+k:Nat)∧Below w.1.size w wr) (fun _ i _=>n-(intOf i).toNat)
 case atStart=>exact ⟨0,zle _,rfl,rfl,br _ _⟩
 case round=>
  obtain ⟨k,hk,rfl,rfl,hb⟩:=hrel
  by_cases hkn:k<n
  ·obtain ⟨b,off,rfl,hlo,hbh,hcx,hfx⟩:=hc k hkn
   clear hc hfx
   have hcx1:wr.cell? ⟨b,off+k,none⟩=some (.int .i64 (k0+k:Nat)):=(hb.cell (p:=⟨b,off+k,none⟩) (by show b<_;omega)).trans hcx
   clear hcx
   go_wp2
   go_roundw
   case rel=>exact ⟨k+1,by omega,by go_num,by go_num,by first|exact hb|exact hb.drew⟩
   case measure=>simp [intOf];omega
  ·have:k=n:=by omega
   subst this
   clear hc
   go_wp2
   go_ret
   exact ⟨rfl,hb⟩
theorem IntsOwn.frP {w w':World} {b:Nat} {ad:Option Addr} {n:Nat} {s:Nat→Int} {P:Nat→Prop} (h:IntsOwn w b (b+1) ad n s) (hb:FrP P w w') (hn:n≠0→¬P b∧b<w.1.size):IntsOwn w' b (b+1) ad n s:=fun i hi=>by
 exact apMe0
theorem J2 (n:Nat) (s:Nat→Int) (ad:Option Addr) (cap:Nat) (k:Int) (m:Nat) (hk:k=m) (w:World) (b:Nat) (hlt:n≠0→b<w.1.size) (hl:(n:Int)≤1073741824) (hk1:1≤k) (hk2:k≤1073741824)
  (hc:IntsOwn w b (b+1) ad n s) :
  Calls Tryz.prog 57 #[.slice ad n cap,.int .i64 k] w fun e w'=>e=.returned (.int .i64 (k+n))∧IntsOwn w' b (b+1) ad n (fun i=>(m+i:Nat))∧FrP (fun q=>n≠0∧q=b) w w':=by
 subst hk
 by_cases h0:n=0
 ·subst h0
  exact (J3 0 s ad cap m w 0 0 (zle _) hl hk1 hk2 (fun i hi=>absurd hi (nlz _))).mono fun e w' ⟨e1,_,e3⟩=>⟨e1,fun i hi=>absurd hi (nlz _),FrP.of_fr e3 (fun k h1 h2=>absurd h2 (nlz _))⟩
 ·exact (J3 n s ad cap m w b (b+1) (hlt h0) hl hk1 hk2 hc).mono fun e w' ⟨e1,e2,e3⟩=>⟨e1,e2,FrP.of_fr e3 (fun k h1 h2=>⟨h0,by omega⟩)⟩
theorem J9 (n:Nat) (ad:Option Addr) (cap:Nat) (k:Int) (m:Nat) (hk:k=m) (w:World) (b:Nat) (hlt:n≠0→b<w.1.size) (hl:(n:Int)≤1073741824) (hk1:1≤k) (hk2:k≤1073741824)
  (hc:IntsOwn w b (b+1) ad n (fun i=>(m+i:Nat))) :
  Calls Tryz.prog 63 #[.slice ad n cap,.int .i64 k] w fun e w'=>e=.returned (.int .i64 (k+n))∧Below w.1.size w w':=by
 subst hk
 by_cases h0:n=0
 ·subst h0
  exact Ka 0 ad cap m w 0 0 (zle _) hl hk1 hk2 (fun i hi=>absurd hi (nlz _))
 ·exact Ka n ad cap m w b (b+1) (hlt h0) hl hk1 hk2 hc
def slM (m:Nat):Sl:=⟨m,mt (m+1)⟩
def atSl (c:Nat→Value) (i:Nat) (y:Sl):Prop:=c (i*2)=.int .i64 y.bal∧c (i*2+1)=.string y.text
theorem Yy {c:Nat→Value} {i:Nat} {y:Sl} (h:atSl c i y) {k o:Nat} (hik:¬i=k) (h1:k*2≤o) (h2:o<k*2+2) (v:Value):atSl (setF c o v) i y:=by
 obtain ⟨a0,a1⟩:=h
 exact ⟨(if_neg (by omega)).trans a0,(if_neg (by omega)).trans a1⟩
def mkSl (m:Nat) (_:Sl):Sl:=slM m
def Yi (k0:Nat) (x:Nat→Sl):Nat→Nat|0=>k0|n+1=>Yi k0 x n+2
theorem JL (k0:Nat) (x:Nat→Sl) {k n:Nat} (h:k≤n):Yi k0 x k≤Yi k0 x n:=by
 induction n with
 | zero=>
   have:k=0:=by omega
   subst this;exact lrf _
 | succ m ih=>
   rcases Nat.lt_or_ge m k with h1|h1
   ·have:k=m+1:=by omega
    subst this;exact lrf _
   ·exact ltr (ih h1) (by simp only [Yi];omega)
theorem UH (k0:Nat) (x:Nat→Sl) (k:Nat) (h:1≤k0):1≤Yi k0 x k:=ltr h (JL k0 x (zle k))
def ykSl (k0:Nat) (x:Nat→Sl) (k i:Nat):Sl:=if i<k then mkSl (Yi k0 x i) (x i) else x i
theorem ykSl_zero (k0:Nat) (x:Nat→Sl):ykSl k0 x 0=x:=funext fun i=>if_neg (nlz i)
theorem ykSl_lt {k0:Nat} {x:Nat→Sl} {k i:Nat} (h:i<k):ykSl k0 x k i=mkSl (Yi k0 x i) (x i):=if_pos h
theorem ykSl_ne {k0:Nat} {x:Nat→Sl} {k i:Nat} (h:¬i=k):ykSl k0 x (k+1) i=ykSl k0 x k i:=by
 unfold ykSl
 by_cases h1:i<k
 ·rw [if_pos h1,if_pos (by omega)]
 ·rw [if_neg h1,if_neg (by omega)]
structure SlsAt (w:World) (ad:Option Addr) (g n:Nat) (x:Nat→Sl):Prop where
 addr:0<n→ad=some ⟨g,0,none⟩
 row:0<n→∃ c,RowF w g (n*2) c∧∀ i,i<n→atSl c i (x i)
theorem SlsAt.fr {w w':World} {ad:Option Addr} {g n:Nat} {x:Nat→Sl} {P:Nat→Prop} (h:SlsAt w ad g n x) (hf:FrP P w w') (hp:∀ k,(fun k=>0<n∧k=g) k→¬P k):SlsAt w' ad g n x:=
 ⟨h.addr,fun h0=>by obtain ⟨c,r,e⟩:=h.row h0;exact ⟨c,r.fr hf (hp g (⟨h0,rfl⟩)),e⟩⟩
theorem SlsAt.grow {w w':World} {ad:Option Addr} {g n:Nat} {x:Nat→Sl} (h:SlsAt w ad g n x) (hf:Below w.1.size w w'):SlsAt w' ad g n x:=h.fr (FrP.of_below (P:=fun _=>False) hf) (fun _ _ h=>h)
theorem markSls_own (ad:Option Addr) (g n:Nat) (x:Nat→Sl) (cap k0:Nat) (w:World) (hl:(n:Int)≤1073741824) (hk1:1≤(k0:Int)) (hk2:(Yi k0 x n:Int)≤1073741824) (hc:SlsAt w ad g n x) :
  Calls Tryz.prog 58 #[.slice ad n cap,.int .i64 k0] w fun e w'=>e=.returned (.int .i64 (Yi k0 x n))∧SlsAt w' ad g n (ykSl k0 x n)∧FrP (fun k=>0<n∧k=g) w w':=by
 go_enter Tryz.func58,Tryz.ntmps58
 go_wp2
 go_loopw [1,5] (fun t i wr=>∃ k:Nat,k≤n∧i=.int .i64 k∧t=.int .i64 (Yi k0 x k)∧FrP (fun k=>0<n∧k=g) w wr∧SlsAt wr ad g n (ykSl k0 x k)) (fun _ i _=>n-(intOf i).toNat)
 case atStart=>exact ⟨0,zle _,rfl,rfl,FrP.refl _ _,by rw [ykSl_zero];exact hc⟩
 case round=>
  obtain ⟨k,hk,rfl,rfl,hfr,ho⟩:=hrel
  clear hc
  by_cases hkn:k<n
  ·have hmo:=JL k0 x (k:=k+1) (n:=n) (by omega)
   have hm1:=UH k0 x k (by omega)
   have hms:Yi k0 x (k+1)=Yi k0 x k+2:=rfl
   have HM:Hid (Yi k0 x (k+1)=Yi k0 x k+2):=hms
   have hm:Yi k0 x k+2≤1073741824:=by omega
   clear hmo hms
   obtain ⟨m,hme⟩:∃ m,Yi k0 x k=m:=⟨_,rfl⟩
   rw [hme] at hm1 hm HM ⊢
   have HME:=hid hme
   clear hme
   obtain rfl:=ho.addr (by omega)
   obtain ⟨c,r0,hat⟩:=ho.row (by omega)
   have HO:=hid ho
   have HAT:=hid hat
   have hfr':=hid hfr
   clear ho hat hfr
   have f0:FrP (fun q=>q=g) wr wr:=FrP.refl _ _
   have q0:=r0.cell (k*2) (by omega)
   have qf0:=r0.free
   go_wp2_with fail
   refine (XE _ (m+1) (by omega) _ (by omega) (by omega)).mono ?_
   rintro e w1 ⟨rfl,b1⟩
   have r1:=(r0.set (o:=k*2) (by omega) _).below b1 (by first|exact r0.lt|(simp only [World.size_setCell];exact r0.lt))
   have f1:=(f0.setCell (p:=⟨g,k*2,none⟩) rfl _).trans (FrP.of_below b1)
   clear q0 qf0 r0 f0 b1
   have q1:=r1.cell (k*2+1) (by omega)
   have qf1:=r1.free
   go_wp2
   go_roundw
   case rel=>
    refine ⟨k+1,by omega,by go_num,by rw [HM.out];apply congrArg;omega,hfr'.out.trans (FrP.mono (f1.setCell (p:=⟨g,k*2+1,none⟩) rfl _) (fun q hq=>⟨by omega,hq⟩)),fun _=>rfl,fun _=>⟨_,(r1.set (o:=k*2+1) (by omega) _),fun i hi=>?_⟩⟩
    by_cases e:i=k
    ·subst e
     rw [ykSl_lt (Nat.lt_succ_self i),HME.out]
     refine ⟨?_,?_⟩
     all_goals first|(simp [setF,mkSl,slM];done)|(simp [setF,mkSl,slM];omega)|(simp [setF,mkSl,slM];exact rem3 (by omega))
    ·rw [ykSl_ne e]
     exact (Yy (Yy (HAT.out i hi) e (k:=k) (by omega) (by omega) _) e (k:=k) (by omega) (by omega) _)
   case measure=>simp [intOf];omega
  ·have:k=n:=by omega
   subst this
   have HO:=hid ho
   clear ho
   go_wp2
   go_ret
   exact ⟨rfl,HO.out,hfr⟩
theorem heldSls_own (ad:Option Addr) (g n:Nat) (x:Nat→Sl) (cap k0:Nat) (w:World) (hl:(n:Int)≤1073741824) (hk1:1≤(k0:Int)) (hk2:(Yi k0 x n:Int)≤1073741824) (hc:SlsAt w ad g n (ykSl k0 x n)) :
  Calls Tryz.prog 64 #[.slice ad n cap,.int .i64 k0] w fun e w'=>e=.returned (.int .i64 (Yi k0 x n))∧Below w.1.size w w':=by
 have HO:=hid hc
 clear hc
 go_enter Tryz.func64,Tryz.ntmps64
 go_wp2
 go_loopw [1,5] (fun t i wr=>∃ k:Nat,k≤n∧i=.int .i64 k∧t=.int .i64 (Yi k0 x k)∧Below w.1.size w wr) (fun _ i _=>n-(intOf i).toNat)
 case atStart=>exact ⟨0,zle _,rfl,rfl,br _ _⟩
 case round=>
  obtain ⟨k,hk,rfl,rfl,b0⟩:=hrel
  by_cases hkn:k<n
  ·have hmo:=JL k0 x (k:=k+1) (n:=n) (by omega)
   have hm1:=UH k0 x k (by omega)
   have hms:Yi k0 x (k+1)=Yi k0 x k+2:=rfl
   have HM:Hid (Yi k0 x (k+1)=Yi k0 x k+2):=hms
   have hm:Yi k0 x k+2≤1073741824:=by omega
   clear hmo hms
   have hadr:=HO.out.addr (by omega)
   obtain ⟨c,rr,hat⟩:=HO.out.row (by omega)
   have hak:=hat k hkn
   rw [ykSl_lt hkn] at hak
   obtain ⟨m,hme⟩:∃ m,Yi k0 x k=m:=⟨_,rfl⟩
   rw [hme] at hm1 hm HM hak ⊢
   clear hme hat
   subst hadr
   obtain ⟨a0,a1⟩:=hak
   replace a0:c (k*2)=.int .i64 ((m:Int)):=a0.trans (by first|(exact congrArg (Value.int .i64) (by first|rfl|(simp only [mkSl,slM];omega)))|(exact congrArg Value.bool (rem3 (by omega)).symm))
   replace a1:c (k*2+1)=.string (mt (m+1)):=a1
   have A0:=hid a0
   have A1:=hid a1
   have RR:=hid rr
   have hgw:=rr.lt
   clear rr a0 a1
   have q0:=((RR.out.below b0 hgw).cell (k*2) (by omega)).trans (congrArg some A0.out)
   have z1:=b0.size
   have qq1:=((RR.out.below b0 hgw).cell (k*2+1) (by omega)).trans (congrArg some A1.out)
   have y1:=Zc qq1 (by show g<_;omega)
   have hne1:Nonempty (GW wr):=⟨⟨_,br _ _⟩⟩
   go_wp2
   refine Zf (by kernel_rfl) (by kernel_rfl) ?_
   repeat (go_big_quiet_step ((go_at_call 60;go_must (exact Zp (XE _ (m+1) (by omega) _ (by omega) (by omega))))))
   refine wpQuiet_nil ?_
   rintro w1 ⟨u,hu⟩
   have c1:Below wr.1.size wr w1:=hu▸u.prop
   have b1:=b0.trans (c1.mono (by omega))
   clear hu u hne1 qq1 y1 c1 q0
   go_wp2
   go_roundw
   case rel=>exact ⟨k+1,by omega,by go_num,by rw [HM.out];apply congrArg;omega,b1⟩
   case measure=>simp [intOf];omega
  ·have:k=n:=by omega
   subst this
   go_wp2
   go_ret
   exact ⟨rfl,b0⟩
theorem XL (k0:Nat) (x:Nat→Sl):∀ n,Yi k0 x n=k0+2*n
 | 0=>rfl
 | n+1=>by rw [Yi,XL k0 x n];omega
theorem SlsAt.congr {w:World} {ad:Option Addr} {g n:Nat} {x y:Nat→Sl} (h:SlsAt w ad g n x) (e:∀ i,i<n→x i=y i):SlsAt w ad g n y:=
 ⟨h.addr,fun h0=>by obtain ⟨c,r,a⟩:=h.row h0;exact ⟨c,r,fun i hi=>e i hi▸a i hi⟩⟩
theorem SlsAt.frP {w w':World} {ad:Option Addr} {g n:Nat} {x:Nat→Sl} {P:Nat→Prop} (h:SlsAt w ad g n x) (hf:FrP P w w') (hn:n≠0→¬P g∧g<w.1.size):SlsAt w' ad g n x:=
 h.fr hf (fun k hk=>by obtain ⟨h0,rfl⟩:=hk;exact (hn (by omega)).1)
theorem ykSl_at {k0:Nat} {x:Nat→Sl} {n i:Nat} (h:i<n):ykSl k0 x n i=slM (k0+2*i):=by rw [ykSl_lt h,XL];rfl
theorem XY (n:Nat) (s:Nat→Sl) (ad:Option Addr) (cap:Nat) (k:Int) (m:Nat) (hk:k=m) (w:World) (b:Nat) (_hlt:n≠0→b<w.1.size) (hl:(n:Int)≤1073741824) (hk1:1≤k) (hk2:k+2*n≤1073741824)
  (hc:SlsAt w ad b n s) :
  Calls Tryz.prog 58 #[.slice ad n cap,.int .i64 k] w fun e w'=>e=.returned (.int .i64 (k+2*n))∧SlsAt w' ad b n (fun i=>slM (m+2*i))∧FrP (fun q=>n≠0∧q=b) w w':=by
 subst hk
 refine (markSls_own ad b n s cap m w hl hk1 (by rw [XL];omega) hc).mono fun e w' ⟨e1,e2,e3⟩=>⟨?_,e2.congr (fun i hi=>ykSl_at hi),e3.mono (fun q hq=>⟨by omega,hq.2⟩)⟩
 rw [e1,XL]
 exact congrArg (fun z=>Ending.returned (Value.int .i64 z)) (by omega)
theorem JN (n:Nat) (ad:Option Addr) (cap:Nat) (k:Int) (m:Nat) (hk:k=m) (w:World) (b:Nat) (_hlt:n≠0→b<w.1.size) (hl:(n:Int)≤1073741824) (hk1:1≤k) (hk2:k+2*n≤1073741824)
  (hc:SlsAt w ad b n (fun i=>slM (m+2*i))) :
  Calls Tryz.prog 64 #[.slice ad n cap,.int .i64 k] w fun e w'=>e=.returned (.int .i64 (k+2*n))∧Below w.1.size w w':=by
 subst hk
 refine (heldSls_own ad b n (fun _=>slM 0) cap m w hl hk1 (by rw [XL];omega) (hc.congr (fun i hi=>(ykSl_at hi).symm))).mono fun e w' ⟨e1,e2⟩=>⟨?_,e2⟩
 rw [e1,XL]
 exact congrArg (fun z=>Ending.returned (Value.int .i64 z)) (by omega)
theorem after6 {w0 w1:World} {g m:Nat} {c:Nat→Value} {o0 o1 o2 o3 o4 o5:Nat} {v0 v1 v2 v3 v4 v5:Value} (b:Below ((((((w0.setCell ⟨g,o0,none⟩ v0).setCell ⟨g,o1,none⟩ v1).setCell ⟨g,o2,none⟩ v2).setCell ⟨g,o3,none⟩ v3).setCell ⟨g,o4,none⟩ v4).setCell ⟨g,o5,none⟩ v5).1.size ((((((w0.setCell ⟨g,o0,none⟩ v0).setCell ⟨g,o1,none⟩ v1).setCell ⟨g,o2,none⟩ v2).setCell ⟨g,o3,none⟩ v3).setCell ⟨g,o4,none⟩ v4).setCell ⟨g,o5,none⟩ v5) w1) (r:RowF w0 g m c) (h:o0<m∧o1<m∧o2<m∧o3<m∧o4<m∧o5<m):RowF w1 g m (setF (setF (setF (setF (setF (setF c o0 v0) o1 v1) o2 v2) o3 v3) o4 v4) o5 v5)∧FrP (fun q=>q=g) w0 w1:=by
 obtain ⟨h0,h1,h2,h3,h4,h5⟩:=h
 have r6:=(((((r.set h0 v0).set h1 v1).set h2 v2).set h3 v3).set h4 v4).set h5 v5
 have f6:=((((((FrP.refl (fun q=>q=g) w0).setCell (p:=⟨g,o0,none⟩) rfl v0).setCell (p:=⟨g,o1,none⟩) rfl v1).setCell (p:=⟨g,o2,none⟩) rfl v2).setCell (p:=⟨g,o3,none⟩) rfl v3).setCell (p:=⟨g,o4,none⟩) rfl v4).setCell (p:=⟨g,o5,none⟩) rfl v5
 exact ⟨r6.below b r6.lt,f6.trans (FrP.of_below b)⟩
def atMs (c:Nat→Value) (i:Nat) (y:Ms) (A:Option Addr) (C:Nat):Prop:=c (i*8)=.int .i64 y.kind∧c (i*8+1)=.int .i64 y.from_∧c (i*8+2)=.int .i64 y.to∧c (i*8+3)=.int .i64 y.bal∧c (i*8+4)=.int .i64 y.ix∧c (i*8+5)=.int .i64 y.kn∧c (i*8+6)=.string y.text∧c (i*8+7)=.slice A y.n C
theorem Xe {c:Nat→Value} {i:Nat} {y:Ms}{A:Option Addr} {C:Nat} (h:atMs c i y A C) {k o:Nat} (hik:¬i=k) (h1:k*8≤o) (h2:o<k*8+8) (v:Value):atMs (setF c o v) i y A C:=by
 obtain ⟨a0,a1,a2,a3,a4,a5,a6,a7⟩:=h
 exact ⟨(if_neg (by omega)).trans a0,(if_neg (by omega)).trans a1,(if_neg (by omega)).trans a2,(if_neg (by omega)).trans a3,(if_neg (by omega)).trans a4,(if_neg (by omega)).trans a5,(if_neg (by omega)).trans a6,(if_neg (by omega)).trans a7⟩
def mkMs (m:Nat) (o:Ms):Ms:=⟨m,(m:Int)+1,(m:Int)+2,(m:Int)+3,(m:Int)+4,(m:Int)+5,mt (m+6),o.n,fun j=>slM (m+7+2*j)⟩
def ZS (k0:Nat) (x:Nat→Ms):Nat→Nat|0=>k0|n+1=>ZS k0 x n+7+2*(x n).n
theorem XU (k0:Nat) (x:Nat→Ms) {k n:Nat} (h:k≤n):ZS k0 x k≤ZS k0 x n:=by
 induction n with
 | zero=>
   have:k=0:=by omega
   subst this;exact lrf _
 | succ m ih=>
   rcases Nat.lt_or_ge m k with h1|h1
   ·have:k=m+1:=by omega
    subst this;exact lrf _
   ·exact ltr (ih h1) (by simp only [ZS];omega)
theorem UI (k0:Nat) (x:Nat→Ms) (k:Nat) (h:1≤k0):1≤ZS k0 x k:=ltr h (XU k0 x (zle k))
def ykMs (k0:Nat) (x:Nat→Ms) (k i:Nat):Ms:=if i<k then mkMs (ZS k0 x i) (x i) else x i
theorem ykMs_zero (k0:Nat) (x:Nat→Ms):ykMs k0 x 0=x:=funext fun i=>if_neg (nlz i)
theorem KP {k0:Nat} {x:Nat→Ms} {k i:Nat} (h:i<k):ykMs k0 x k i=mkMs (ZS k0 x i) (x i):=if_pos h
theorem ykMs_ge {k0:Nat} {x:Nat→Ms} {k i:Nat} (h:k≤i):ykMs k0 x k i=x i:=if_neg (by omega)
theorem ykMs_ne {k0:Nat} {x:Nat→Ms} {k i:Nat} (h:¬i=k):ykMs k0 x (k+1) i=ykMs k0 x k i:=by
 unfold ykMs
 by_cases h1:i<k
 ·rw [if_pos h1,if_pos (by omega)]
 ·rw [if_neg h1,if_neg (by omega)]
theorem Xk (k0:Nat) (x:Nat→Ms) (k i:Nat):(ykMs k0 x k i).n=(x i).n:=by unfold ykMs;split<;>rfl
structure MssAt (w:World) (ad:Option Addr) (g n:Nat) (x:Nat→Ms) (A:Nat→Option Addr) (C:Nat→Nat) (hb:Nat→Nat):Prop where
 addr:0<n→ad=some ⟨g,0,none⟩
 row:0<n→∃ c,RowF w g (n*8) c∧∀ i,i<n→atMs c i (x i) (A i) (C i)
 hold:∀ i,i<n→SlsAt w (A i) (hb i) (x i).n (x i).s
 hlt:∀ i,i<n→(x i).n≠0→hb i<w.1.size
 ap:ApartH g n (fun i=>(x i).n) hb
theorem MssAt.fr {w w':World} {ad:Option Addr} {g n:Nat} {x:Nat→Ms} {A:Nat→Option Addr} {C:Nat→Nat} {hb:Nat→Nat} {P:Nat→Prop} (h:MssAt w ad g n x A C hb) (hf:FrP P w w') (hp:∀ k,blkH g n (fun i=>(x i).n) hb k→¬P k):MssAt w' ad g n x A C hb:=
 ⟨h.addr,fun h0=>by obtain ⟨c,r,e⟩:=h.row h0;exact ⟨c,r.fr hf (hp g (Or.inl ⟨h0,rfl⟩)),e⟩,fun i hi=>(h.hold i hi).frP hf (fun h0=>⟨hp (hb i) (Or.inr ⟨i,hi,h0,rfl⟩),h.hlt i hi h0⟩),fun i hi h0=>ltl (h.hlt i hi h0) hf.size,h.ap⟩
theorem markMss_own (ad:Option Addr) (g n:Nat) (x:Nat→Ms) (A:Nat→Option Addr) (C:Nat→Nat) (hb:Nat→Nat) (cap k0:Nat) (w:World) (hl:(n:Int)≤1048576) (hk1:1≤(k0:Int)) (hk2:(ZS k0 x n:Int)≤1073741824) (hc:MssAt w ad g n x A C hb) :
  Calls Tryz.prog 13 #[.slice ad n cap,.int .i64 k0] w fun e w'=>e=.returned (.int .i64 (ZS k0 x n))∧MssAt w' ad g n (ykMs k0 x n) A C hb∧FrP (blkH g n (fun i=>(x i).n) hb) w w':=by
 go_enter Tryz.func13,Tryz.ntmps13
 go_wp2
 go_loopw [1,5] (fun t i wr=>∃ k:Nat,k≤n∧i=.int .i64 k∧t=.int .i64 (ZS k0 x k)∧FrP (blkH g n (fun i=>(x i).n) hb) w wr∧MssAt wr ad g n (ykMs k0 x k) A C hb) (fun _ i _=>n-(intOf i).toNat)
 case atStart=>exact ⟨0,zle _,rfl,rfl,FrP.refl _ _,by rw [ykMs_zero];exact hc⟩
 case round=>
  obtain ⟨k,hk,rfl,rfl,hfr,ho⟩:=hrel
  clear hc
  by_cases hkn:k<n
  ·have hmo:=XU k0 x (k:=k+1) (n:=n) (by omega)
   have hm1:=UI k0 x k (by omega)
   have hms:ZS k0 x (k+1)=ZS k0 x k+7+2*(x k).n:=rfl
   have HM:Hid (ZS k0 x (k+1)=ZS k0 x k+7+2*(x k).n):=hms
   have hm:ZS k0 x k+7+2*(x k).n≤1073741824:=by omega
   clear hmo hms
   obtain ⟨m,hme⟩:∃ m,ZS k0 x k=m:=⟨_,rfl⟩
   rw [hme] at hm1 hm HM ⊢
   have HME:=hid hme
   clear hme
   obtain rfl:=ho.addr (by omega)
   obtain ⟨c,r0,hat⟩:=ho.row (by omega)
   have HO:=hid ho
   have HAT:=hid hat
   have hfr':=hid hfr
   have h6:c (k*8+7)=.slice (A k) (x k).n (C k):=by have:=(hat k hkn).2.2.2.2.2.2.2;rw [ykMs_ge (lrf k)] at this;exact this
   have H6:=hid h6
   clear h6
   clear ho hat hfr
   have f0:FrP (fun q=>q=g) wr wr:=FrP.refl _ _
   have q0:=r0.cell (k*8) (by omega)
   have q1:=r0.cell (k*8+1) (by omega)
   have q2:=r0.cell (k*8+2) (by omega)
   have q3:=r0.cell (k*8+3) (by omega)
   have q4:=r0.cell (k*8+4) (by omega)
   have q5:=r0.cell (k*8+5) (by omega)
   have qf0:=r0.free
   go_wp2_with fail
   refine (XE _ (m+6) (by omega) _ (by omega) (by omega)).mono ?_
   rintro e w1 ⟨rfl,b1⟩
   obtain ⟨r1,f1⟩:=after6 b1 r0 ⟨by omega,by omega,by omega,by omega,by omega,by omega⟩
   clear q0 q1 q2 q3 q4 q5 qf0 r0 f0 b1
   have q6:=r1.cell (k*8+6) (by omega)
   have qf1:=r1.free
   have q7:w1.cell? ⟨g,k*8+7,none⟩=some (.slice (A k) (x k).n (C k)):=(r1.cell (k*8+7) (by omega)).trans (congrArg some (Eq.trans (by simp [setF]) H6.out))
   have hkh:=HO.out.hlt k hkn
   rw [Xk] at hkh
   have hkne:=HO.out.ap.ne k hkn
   have hho:=HO.out.hold k hkn
   rw [ykMs_ge (lrf k)] at hho
   have HKH:=hid hkh
   have HKN:Hid ((x k).n≠0→¬hb k=g):=fun h0=>hkne (by show (ykMs k0 x k k).n≠0;rw [Xk];exact h0)
   have HHO:=hid hho
   have hz:=f1.size
   clear hkh hkne hho
   go_wp2_with fail
   refine (XY (x k).n (x k).s (A k) (C k) _ (m+7) (by omega) _ (hb k) (fun h0=>(by have:=HKH.out h0;simp only [World.size_setCell];omega)) (by omega) (by omega) (by omega) (HHO.out.frP (f1.setCell (p:=⟨g,k*8+6,none⟩) rfl _) (fun h0=>⟨HKN.out h0,HKH.out h0⟩))).mono ?_
   rintro e w9 ⟨rfl,hs9,f9⟩
   have r9:=(r1.set (o:=k*8+6) (by omega) _).fr f9 (fun h0=>HKN.out h0.1 h0.2.symm)
   have F9:=(f1.setCell (p:=⟨g,k*8+6,none⟩) rfl _).link f9
   have HO9:MssAt w9 (some ⟨g,0,none⟩) g n (ykMs k0 x (k+1)) A C hb:=by
    refine ⟨fun _=>rfl,fun _=>⟨_,r9,fun i hi=>?_⟩,fun i hi=>?_,fun i hi h0=>?_,?_⟩
    ·by_cases e:i=k
     ·subst e
      rw [KP (Nat.lt_succ_self i),HME.out]
      refine ⟨?_,?_,?_,?_,?_,?_,?_,?_⟩
      all_goals first|(simp [setF,mkMs];done)|(simp [setF,mkMs];omega)|(simp [setF,mkMs];exact rem3 (by omega))|(exact (by simp [setF])▸H6.out)|(simp [setF,mkMs,H6.out];done)
     ·rw [ykMs_ne e]
      exact (Xe (Xe (Xe (Xe (Xe (Xe (Xe (HAT.out i hi) e (k:=k) (by omega) (by omega) _) e (k:=k) (by omega) (by omega) _) e (k:=k) (by omega) (by omega) _) e (k:=k) (by omega) (by omega) _) e (k:=k) (by omega) (by omega) _) e (k:=k) (by omega) (by omega) _) e (k:=k) (by omega) (by omega) _)
    ·by_cases e:i=k
     ·subst e
      rw [KP (Nat.lt_succ_self i),HME.out]
      exact hs9
     ·rw [ykMs_ne e]
      have hn0:=Xk k0 x k i
      refine ((HO.out.hold i hi).frP F9 (fun h0=>⟨HO.out.ap.ne i hi h0,HO.out.hlt i hi h0⟩)).frP f9 (fun h0=>⟨fun h1=>e (HO.out.ap.inj i k hi hkn h0 (by show (ykMs k0 x k k).n≠0;rw [Xk];exact h1.1) h1.2),ltl (HO.out.hlt i hi h0) F9.size⟩)
    ·rw [Xk] at h0
     exact ltl (HO.out.hlt i hi (by rw [Xk];exact h0)) (ltr F9.size f9.size)
    ·exact HO.out.ap.congr (fun i=>by show (ykMs k0 x k i).n=(ykMs k0 x (k+1) i).n;rw [Xk,Xk])
   have HO9':=hid HO9
   have HF9:=hid (hfr'.out.trans ((F9.mono (fun q hq=>Or.inl ⟨by omega,hq⟩)).trans (f9.mono (fun q hq=>Or.inr ⟨k,hkn,hq.1,hq.2⟩))))
   clear q6 q7 qf1 HO9 r9 f9 F9 hs9 r1 f1
   go_wp2
   go_roundw
   case rel=>exact ⟨k+1,by omega,by go_num,by rw [HM.out];apply congrArg;omega,HF9.out,HO9'.out⟩
   case measure=>simp [intOf];omega
  ·have:k=n:=by omega
   subst this
   have HO:=hid ho
   clear ho
   go_wp2
   go_ret
   exact ⟨rfl,HO.out,hfr⟩
theorem heldMss_own (ad:Option Addr) (g n:Nat) (x:Nat→Ms) (A:Nat→Option Addr) (C:Nat→Nat) (hb:Nat→Nat) (cap k0:Nat) (w:World) (hl:(n:Int)≤1048576) (hk1:1≤(k0:Int)) (hk2:(ZS k0 x n:Int)≤1073741824) (hc:MssAt w ad g n (ykMs k0 x n) A C hb) :
  Calls Tryz.prog 15 #[.slice ad n cap,.int .i64 k0] w fun e w'=>e=.returned (.int .i64 (ZS k0 x n))∧Below w.1.size w w':=by
 have HO:=hid hc
 clear hc
 go_enter Tryz.func15,Tryz.ntmps15
 go_wp2
 go_loopw [1,5] (fun t i wr=>∃ k:Nat,k≤n∧i=.int .i64 k∧t=.int .i64 (ZS k0 x k)∧Below w.1.size w wr) (fun _ i _=>n-(intOf i).toNat)
 case atStart=>exact ⟨0,zle _,rfl,rfl,br _ _⟩
 case round=>
  obtain ⟨k,hk,rfl,rfl,b0⟩:=hrel
  by_cases hkn:k<n
  ·have hmo:=XU k0 x (k:=k+1) (n:=n) (by omega)
   have hm1:=UI k0 x k (by omega)
   have hms:ZS k0 x (k+1)=ZS k0 x k+7+2*(x k).n:=rfl
   have HM:Hid (ZS k0 x (k+1)=ZS k0 x k+7+2*(x k).n):=hms
   have hm:ZS k0 x k+7+2*(x k).n≤1073741824:=by omega
   clear hmo hms
   have hadr:=HO.out.addr (by omega)
   obtain ⟨c,rr,hat⟩:=HO.out.row (by omega)
   have hak:=hat k hkn
   rw [KP hkn] at hak
   have hho:=HO.out.hold k hkn
   have hhl:=HO.out.hlt k hkn
   rw [KP hkn] at hho hhl
   obtain ⟨m,hme⟩:∃ m,ZS k0 x k=m:=⟨_,rfl⟩
   rw [hme] at hm1 hm HM hak hho hhl ⊢
   clear hme hat
   subst hadr
   obtain ⟨a0,a1,a2,a3,a4,a5,a6,a7⟩:=hak
   replace a0:c (k*8)=.int .i64 ((m:Int)):=a0.trans (by first|(exact congrArg (Value.int .i64) (by first|rfl|(simp only [mkMs];omega)))|(exact congrArg Value.bool (rem3 (by omega)).symm))
   replace a1:c (k*8+1)=.int .i64 ((m:Int)+1):=a1.trans (by first|(exact congrArg (Value.int .i64) (by first|rfl|(simp only [mkMs];omega)))|(exact congrArg Value.bool (rem3 (by omega)).symm))
   replace a2:c (k*8+2)=.int .i64 ((m:Int)+1+1):=a2.trans (by first|(exact congrArg (Value.int .i64) (by first|rfl|(simp only [mkMs];omega)))|(exact congrArg Value.bool (rem3 (by omega)).symm))
   replace a3:c (k*8+3)=.int .i64 ((m:Int)+1+1+1):=a3.trans (by first|(exact congrArg (Value.int .i64) (by first|rfl|(simp only [mkMs];omega)))|(exact congrArg Value.bool (rem3 (by omega)).symm))
   replace a4:c (k*8+4)=.int .i64 ((m:Int)+1+1+1+1):=a4.trans (by first|(exact congrArg (Value.int .i64) (by first|rfl|(simp only [mkMs];omega)))|(exact congrArg Value.bool (rem3 (by omega)).symm))
   replace a5:c (k*8+5)=.int .i64 ((m:Int)+1+1+1+1+1):=a5.trans (by first|(exact congrArg (Value.int .i64) (by first|rfl|(simp only [mkMs];omega)))|(exact congrArg Value.bool (rem3 (by omega)).symm))
   replace a6:c (k*8+6)=.string (mt (m+6)):=a6
   replace a7:c (k*8+7)=.slice (A k) (x k).n (C k):=a7
   have A0:=hid a0
   have A1:=hid a1
   have A2:=hid a2
   have A3:=hid a3
   have A4:=hid a4
   have A5:=hid a5
   have A6:=hid a6
   have A7:=hid a7
   have RR:=hid rr
   have hgw:=rr.lt
   clear rr a0 a1 a2 a3 a4 a5 a6 a7
   have HHO:Hid (SlsAt w (A k) (hb k) (x k).n (fun i=>slM (m+7+2*i))):=hho
   have HHL:Hid ((x k).n≠0→hb k<w.1.size):=hhl
   clear hho hhl
   have q0:=((RR.out.below b0 hgw).cell (k*8) (by omega)).trans (congrArg some A0.out)
   have q1:=((RR.out.below b0 hgw).cell (k*8+1) (by omega)).trans (congrArg some A1.out)
   have q2:=((RR.out.below b0 hgw).cell (k*8+2) (by omega)).trans (congrArg some A2.out)
   have q3:=((RR.out.below b0 hgw).cell (k*8+3) (by omega)).trans (congrArg some A3.out)
   have q4:=((RR.out.below b0 hgw).cell (k*8+4) (by omega)).trans (congrArg some A4.out)
   have q5:=((RR.out.below b0 hgw).cell (k*8+5) (by omega)).trans (congrArg some A5.out)
   have z1:=b0.size
   have qq6:=((RR.out.below b0 hgw).cell (k*8+6) (by omega)).trans (congrArg some A6.out)
   have y6:=Zc qq6 (by show g<_;omega)
   have hne1:Nonempty (GW wr):=⟨⟨_,br _ _⟩⟩
   go_wp2
   refine Zf (by kernel_rfl) (by kernel_rfl) ?_
   repeat (go_big_quiet_step ((go_at_call 60;go_must (exact Zp (XE _ (m+6) (by omega) _ (by omega) (by omega))))))
   refine wpQuiet_nil ?_
   rintro w1 ⟨u,hu⟩
   have c1:Below wr.1.size wr w1:=hu▸u.prop
   have b1:=b0.trans (c1.mono (by omega))
   clear hu u hne1 qq6 y6 c1 q0 q1 q2 q3 q4 q5
   have q7:=((RR.out.below b1 hgw).cell (k*8+7) (by omega)).trans (congrArg some A7.out)
   have zl:=b1.size
   go_wp2_with fail
   refine (JN (x k).n (A k) (C k) _ (m+7) (by omega) _ (hb k) (fun h0=>(by have:=HHL.out h0;omega)) (by omega) (by omega) (by omega) (HHO.out.frP (FrP.of_below (P:=fun _=>False) b1) (fun h0=>⟨fun h=>h,HHL.out h0⟩))).mono ?_
   rintro e w9 ⟨rfl,c9⟩
   have b9:=b1.trans (c9.mono (by omega))
   clear q7  c9
   go_wp2
   go_roundw
   case rel=>exact ⟨k+1,by omega,by go_num,by rw [HM.out];apply congrArg;omega,b9⟩
   case measure=>simp [intOf];omega
  ·have:k=n:=by omega
   subst this
   go_wp2
   go_ret
   exact ⟨rfl,b0⟩
def atAk (c:Nat→Value) (i:Nat) (y:Ak) (A:Option Addr) (C:Nat):Prop:=c (i*2)=.int .i64 y.ix∧c (i*2+1)=.slice A y.n C
theorem atAk_set {c:Nat→Value} {i:Nat} {y:Ak}{A:Option Addr} {C:Nat} (h:atAk c i y A C) {k o:Nat} (hik:¬i=k) (h1:k*2≤o) (h2:o<k*2+2) (v:Value):atAk (setF c o v) i y A C:=by
 obtain ⟨a0,a1⟩:=h
 exact ⟨(if_neg (by omega)).trans a0,(if_neg (by omega)).trans a1⟩
def mkAk (m:Nat) (o:Ak):Ak:=⟨m,o.n,fun j=>((m+1+j:Nat):Int)⟩
def ZT (k0:Nat) (x:Nat→Ak):Nat→Nat|0=>k0|n+1=>ZT k0 x n+1+(x n).n
theorem XV (k0:Nat) (x:Nat→Ak) {k n:Nat} (h:k≤n):ZT k0 x k≤ZT k0 x n:=by
 induction n with
 | zero=>
   have:k=0:=by omega
   subst this;exact lrf _
 | succ m ih=>
   rcases Nat.lt_or_ge m k with h1|h1
   ·have:k=m+1:=by omega
    subst this;exact lrf _
   ·exact ltr (ih h1) (by simp only [ZT];omega)
theorem mkAks_pos (k0:Nat) (x:Nat→Ak) (k:Nat) (h:1≤k0):1≤ZT k0 x k:=ltr h (XV k0 x (zle k))
def ykAk (k0:Nat) (x:Nat→Ak) (k i:Nat):Ak:=if i<k then mkAk (ZT k0 x i) (x i) else x i
theorem ykAk_zero (k0:Nat) (x:Nat→Ak):ykAk k0 x 0=x:=funext fun i=>if_neg (nlz i)
theorem KQ {k0:Nat} {x:Nat→Ak} {k i:Nat} (h:i<k):ykAk k0 x k i=mkAk (ZT k0 x i) (x i):=if_pos h
theorem ykAk_ge {k0:Nat} {x:Nat→Ak} {k i:Nat} (h:k≤i):ykAk k0 x k i=x i:=if_neg (by omega)
theorem ykAk_ne {k0:Nat} {x:Nat→Ak} {k i:Nat} (h:¬i=k):ykAk k0 x (k+1) i=ykAk k0 x k i:=by
 unfold ykAk
 by_cases h1:i<k
 ·rw [if_pos h1,if_pos (by omega)]
 ·rw [if_neg h1,if_neg (by omega)]
theorem Xl (k0:Nat) (x:Nat→Ak) (k i:Nat):(ykAk k0 x k i).n=(x i).n:=by unfold ykAk;split<;>rfl
structure AksAt (w:World) (ad:Option Addr) (g n:Nat) (x:Nat→Ak) (A:Nat→Option Addr) (C:Nat→Nat) (hb:Nat→Nat):Prop where
 addr:0<n→ad=some ⟨g,0,none⟩
 row:0<n→∃ c,RowF w g (n*2) c∧∀ i,i<n→atAk c i (x i) (A i) (C i)
 hold:∀ i,i<n→IntsOwn w (hb i) (hb i+1) (A i) (x i).n (x i).s
 hlt:∀ i,i<n→(x i).n≠0→hb i<w.1.size
 ap:ApartH g n (fun i=>(x i).n) hb
theorem AksAt.fr {w w':World} {ad:Option Addr} {g n:Nat} {x:Nat→Ak} {A:Nat→Option Addr} {C:Nat→Nat} {hb:Nat→Nat} {P:Nat→Prop} (h:AksAt w ad g n x A C hb) (hf:FrP P w w') (hp:∀ k,blkH g n (fun i=>(x i).n) hb k→¬P k):AksAt w' ad g n x A C hb:=
 ⟨h.addr,fun h0=>by obtain ⟨c,r,e⟩:=h.row h0;exact ⟨c,r.fr hf (hp g (Or.inl ⟨h0,rfl⟩)),e⟩,fun i hi=>(h.hold i hi).frP hf (fun h0=>⟨hp (hb i) (Or.inr ⟨i,hi,h0,rfl⟩),h.hlt i hi h0⟩),fun i hi h0=>ltl (h.hlt i hi h0) hf.size,h.ap⟩
theorem AksAt.grow {w w':World} {ad:Option Addr} {g n:Nat} {x:Nat→Ak} {A:Nat→Option Addr} {C:Nat→Nat} {hb:Nat→Nat} (h:AksAt w ad g n x A C hb) (hf:Below w.1.size w w'):AksAt w' ad g n x A C hb:=h.fr (FrP.of_below (P:=fun _=>False) hf) (fun _ _ h=>h)
theorem markAks_own (ad:Option Addr) (g n:Nat) (x:Nat→Ak) (A:Nat→Option Addr) (C:Nat→Nat) (hb:Nat→Nat) (cap k0:Nat) (w:World) (hl:(n:Int)≤1048576) (hk1:1≤(k0:Int)) (hk2:(ZT k0 x n:Int)≤1073741824) (hc:AksAt w ad g n x A C hb) :
  Calls Tryz.prog 59 #[.slice ad n cap,.int .i64 k0] w fun e w'=>e=.returned (.int .i64 (ZT k0 x n))∧AksAt w' ad g n (ykAk k0 x n) A C hb∧FrP (blkH g n (fun i=>(x i).n) hb) w w':=by
 go_enter Tryz.func59,Tryz.ntmps59
 go_wp2
 go_loopw [1,5] (fun t i wr=>∃ k:Nat,k≤n∧i=.int .i64 k∧t=.int .i64 (ZT k0 x k)∧FrP (blkH g n (fun i=>(x i).n) hb) w wr∧AksAt wr ad g n (ykAk k0 x k) A C hb) (fun _ i _=>n-(intOf i).toNat)
 case atStart=>exact ⟨0,zle _,rfl,rfl,FrP.refl _ _,by rw [ykAk_zero];exact hc⟩
 case round=>
  obtain ⟨k,hk,rfl,rfl,hfr,ho⟩:=hrel
  clear hc
  by_cases hkn:k<n
  ·have hmo:=XV k0 x (k:=k+1) (n:=n) (by omega)
   have hm1:=mkAks_pos k0 x k (by omega)
   have hms:ZT k0 x (k+1)=ZT k0 x k+1+(x k).n:=rfl
   have HM:Hid (ZT k0 x (k+1)=ZT k0 x k+1+(x k).n):=hms
   have hm:ZT k0 x k+1+(x k).n≤1073741824:=by omega
   clear hmo hms
   obtain ⟨m,hme⟩:∃ m,ZT k0 x k=m:=⟨_,rfl⟩
   rw [hme] at hm1 hm HM ⊢
   have HME:=hid hme
   clear hme
   obtain rfl:=ho.addr (by omega)
   obtain ⟨c,r0,hat⟩:=ho.row (by omega)
   have HO:=hid ho
   have HAT:=hid hat
   have hfr':=hid hfr
   have h6:c (k*2+1)=.slice (A k) (x k).n (C k):=by have:=(hat k hkn).2;rw [ykAk_ge (lrf k)] at this;exact this
   have H6:=hid h6
   clear h6
   clear ho hat hfr
   have f0:FrP (fun q=>q=g) wr wr:=FrP.refl _ _
   have q0:=r0.cell (k*2) (by omega)
   have qf0:=r0.free
   have q1:wr.cell? ⟨g,k*2+1,none⟩=some (.slice (A k) (x k).n (C k)):=(r0.cell (k*2+1) (by omega)).trans (congrArg some (Eq.trans (by simp) H6.out))
   have hkh:=HO.out.hlt k hkn
   rw [Xl] at hkh
   have hkne:=HO.out.ap.ne k hkn
   have hho:=HO.out.hold k hkn
   rw [ykAk_ge (lrf k)] at hho
   have HKH:=hid hkh
   have HKN:Hid ((x k).n≠0→¬hb k=g):=fun h0=>hkne (by show (ykAk k0 x k k).n≠0;rw [Xl];exact h0)
   have HHO:=hid hho
   have hz:=f0.size
   clear hkh hkne hho
   go_wp2_with fail
   refine (J2 (x k).n (x k).s (A k) (C k) _ (m+1) (by omega) _ (hb k) (fun h0=>(by have:=HKH.out h0;simp only [World.size_setCell];omega)) (by omega) (by omega) (by omega) (HHO.out.frP (f0.setCell (p:=⟨g,k*2,none⟩) rfl _) (fun h0=>⟨HKN.out h0,HKH.out h0⟩))).mono ?_
   rintro e w9 ⟨rfl,hs9,f9⟩
   have r9:=(r0.set (o:=k*2) (by omega) _).fr f9 (fun h0=>HKN.out h0.1 h0.2.symm)
   have F9:=(f0.setCell (p:=⟨g,k*2,none⟩) rfl _).link f9
   have HO9:AksAt w9 (some ⟨g,0,none⟩) g n (ykAk k0 x (k+1)) A C hb:=by
    refine ⟨fun _=>rfl,fun _=>⟨_,r9,fun i hi=>?_⟩,fun i hi=>?_,fun i hi h0=>?_,?_⟩
    ·by_cases e:i=k
     ·subst e
      rw [KQ (Nat.lt_succ_self i),HME.out]
      refine ⟨?_,?_⟩
      all_goals first|(simp [setF,mkAk];done)|(simp [setF,mkAk];omega)|(simp [setF,mkAk];exact rem3 (by omega))|(exact (by simp [setF])▸H6.out)|(simp [setF,mkAk,H6.out];done)
     ·rw [ykAk_ne e]
      exact (atAk_set (HAT.out i hi) e (k:=k) (by omega) (by omega) _)
    ·by_cases e:i=k
     ·subst e
      rw [KQ (Nat.lt_succ_self i),HME.out]
      exact hs9
     ·rw [ykAk_ne e]
      have hn0:=Xl k0 x k i
      refine ((HO.out.hold i hi).frP F9 (fun h0=>⟨HO.out.ap.ne i hi h0,HO.out.hlt i hi h0⟩)).frP f9 (fun h0=>⟨fun h1=>e (HO.out.ap.inj i k hi hkn h0 (by show (ykAk k0 x k k).n≠0;rw [Xl];exact h1.1) h1.2),ltl (HO.out.hlt i hi h0) F9.size⟩)
    ·rw [Xl] at h0
     exact ltl (HO.out.hlt i hi (by rw [Xl];exact h0)) (ltr F9.size f9.size)
    ·exact HO.out.ap.congr (fun i=>by show (ykAk k0 x k i).n=(ykAk k0 x (k+1) i).n;rw [Xl,Xl])
   have HO9':=hid HO9
   have HF9:=hid (hfr'.out.trans ((F9.mono (fun q hq=>Or.inl ⟨by omega,hq⟩)).trans (f9.mono (fun q hq=>Or.inr ⟨k,hkn,hq.1,hq.2⟩))))
   clear q0 q1 qf0 HO9 r9 f9 F9 hs9 r0 f0
   go_wp2
   go_roundw
   case rel=>exact ⟨k+1,by omega,by go_num,by rw [HM.out];apply congrArg;omega,HF9.out,HO9'.out⟩
   case measure=>simp [intOf];omega
  ·have:k=n:=by omega
   subst this
   have HO:=hid ho
   clear ho
   go_wp2
   go_ret
   exact ⟨rfl,HO.out,hfr⟩
theorem heldAks_own (ad:Option Addr) (g n:Nat) (x:Nat→Ak) (A:Nat→Option Addr) (C:Nat→Nat) (hb:Nat→Nat) (cap k0:Nat) (w:World) (hl:(n:Int)≤1048576) (hk1:1≤(k0:Int)) (hk2:(ZT k0 x n:Int)≤1073741824) (hc:AksAt w ad g n (ykAk k0 x n) A C hb) :
  Calls Tryz.prog 65 #[.slice ad n cap,.int .i64 k0] w fun e w'=>e=.returned (.int .i64 (ZT k0 x n))∧Below w.1.size w w':=by
 have HO:=hid hc
 clear hc
 go_enter Tryz.func65,Tryz.ntmps65
 go_wp2
 go_loopw [1,5] (fun t i wr=>∃ k:Nat,k≤n∧i=.int .i64 k∧t=.int .i64 (ZT k0 x k)∧Below w.1.size w wr) (fun _ i _=>n-(intOf i).toNat)
 case atStart=>exact ⟨0,zle _,rfl,rfl,br _ _⟩
 case round=>
  obtain ⟨k,hk,rfl,rfl,b0⟩:=hrel
  by_cases hkn:k<n
  ·have hmo:=XV k0 x (k:=k+1) (n:=n) (by omega)
   have hm1:=mkAks_pos k0 x k (by omega)
   have hms:ZT k0 x (k+1)=ZT k0 x k+1+(x k).n:=rfl
   have HM:Hid (ZT k0 x (k+1)=ZT k0 x k+1+(x k).n):=hms
   have hm:ZT k0 x k+1+(x k).n≤1073741824:=by omega
   clear hmo hms
   have hadr:=HO.out.addr (by omega)
   obtain ⟨c,rr,hat⟩:=HO.out.row (by omega)
   have hak:=hat k hkn
   rw [KQ hkn] at hak
   have hho:=HO.out.hold k hkn
   have hhl:=HO.out.hlt k hkn
   rw [KQ hkn] at hho hhl
   obtain ⟨m,hme⟩:∃ m,ZT k0 x k=m:=⟨_,rfl⟩
   rw [hme] at hm1 hm HM hak hho hhl ⊢
   clear hme hat
   subst hadr
   obtain ⟨a0,a1⟩:=hak
   replace a0:c (k*2)=.int .i64 ((m:Int)):=a0.trans (by first|(exact congrArg (Value.int .i64) (by first|rfl|(simp only [mkAk];omega)))|(exact congrArg Value.bool (rem3 (by omega)).symm))
   replace a1:c (k*2+1)=.slice (A k) (x k).n (C k):=a1
   have A0:=hid a0
   have A1:=hid a1
   have RR:=hid rr
   have hgw:=rr.lt
   clear rr a0 a1
   have HHO:Hid (IntsOwn w (hb k) (hb k+1) (A k) (x k).n (fun i=>((m+1+i:Nat):Int))):=hho
   have HHL:Hid ((x k).n≠0→hb k<w.1.size):=hhl
   clear hho hhl
   have q0:=((RR.out.below b0 hgw).cell (k*2) (by omega)).trans (congrArg some A0.out)
   have q1:=((RR.out.below b0 hgw).cell (k*2+1) (by omega)).trans (congrArg some A1.out)
   have zl:=b0.size
   go_wp2_with fail
   refine (J9 (x k).n (A k) (C k) _ (m+1) (by omega) _ (hb k) (fun h0=>(by have:=HHL.out h0;omega)) (by omega) (by omega) (by omega) (HHO.out.frP (FrP.of_below (P:=fun _=>False) b0) (fun h0=>⟨fun h=>h,HHL.out h0⟩))).mono ?_
   rintro e w9 ⟨rfl,c9⟩
   have b9:=b0.trans (c9.mono (by omega))
   clear q1 q0 c9
   go_wp2
   go_roundw
   case rel=>exact ⟨k+1,by omega,by go_num,by rw [HM.out];apply congrArg;omega,b9⟩
   case measure=>simp [intOf];omega
  ·have:k=n:=by omega
   subst this
   go_wp2
   go_ret
   exact ⟨rfl,b0⟩
structure RcP where
 A:RcA
 g0:Nat
 g1:Nat
 g2:Nat
 g3:Nat
 g4:Nat
 g5:Nat
 g6:Nat
 HA:Nat→Option Addr
 HC:Nat→Nat
 Hb:Nat→Nat
 AA:Nat→Option Addr
 AC:Nat→Nat
 Ab:Nat→Nat
def rb (p:RcP) (r:Rc) (j k:Nat):Prop:=
 match j with
 | 0=>r.sf.n≠0∧k=p.g0
 | 1=>r.dk.n≠0∧k=p.g1
 | 2=>blkH p.g2 r.hn (fun i=>(r.hs i).n) p.Hb k
 | 3=>r.wn≠0∧k=p.g3
 | 4=>r.yn≠0∧k=p.g4
 | 5=>r.bn≠0∧k=p.g5
 | _=>blkH p.g6 r.an (fun i=>(r.as_ i).n) p.Ab k
def rbs (p:RcP) (r:Rc) (k:Nat):Prop:=∃ j,j<7∧rb p r j k
structure RcAt (w:World) (r:Rc) (p:RcP):Prop where
 o0:SlsAt w p.A.sa p.g0 r.sf.n r.sf.s
 o1:SlsAt w p.A.da p.g1 r.dk.n r.dk.s
 o2:MssAt w p.A.ha p.g2 r.hn r.hs p.HA p.HC p.Hb
 o3:StrsOwn w p.g3 (p.g3+1) p.A.wa r.wn r.ws
 o4:IntsOwn w p.g4 (p.g4+1) p.A.ya r.yn r.ys
 o5:SlsAt w p.A.ba p.g5 r.bn r.bs
 o6:AksAt w p.A.aa p.g6 r.an r.as_ p.AA p.AC p.Ab
 lt:∀ k,rbs p r k→k<w.1.size
 ap:∀ i j k,i<7→j<7→rb p r i k→rb p r j k→i=j
theorem Zr {w:World} {r:Rc} {p:RcP} (h:RcAt w r p) {j k:Nat} (hj:j<7) (hk:rb p r j k):k<w.1.size:=h.lt k ⟨j,hj,hk⟩
theorem RcAt.fr {w w':World} {r:Rc} {p:RcP} {P:Nat→Prop} (h:RcAt w r p) (hf:FrP P w w') (hp:∀ k,rbs p r k→¬P k):RcAt w' r p:=
 ⟨h.o0.frP hf (fun h0=>⟨hp _ ⟨0,by omega,h0,rfl⟩,Zr h (j:=0) (by omega) ⟨h0,rfl⟩⟩),
  h.o1.frP hf (fun h0=>⟨hp _ ⟨1,by omega,h0,rfl⟩,Zr h (j:=1) (by omega) ⟨h0,rfl⟩⟩),
  h.o2.fr hf (fun k hk=>hp k ⟨2,by omega,hk⟩),
  h.o3.frP hf (fun h0=>⟨hp _ ⟨3,by omega,h0,rfl⟩,Zr h (j:=3) (by omega) ⟨h0,rfl⟩⟩),
  h.o4.frP hf (fun h0=>⟨hp _ ⟨4,by omega,h0,rfl⟩,Zr h (j:=4) (by omega) ⟨h0,rfl⟩⟩),
  h.o5.frP hf (fun h0=>⟨hp _ ⟨5,by omega,h0,rfl⟩,Zr h (j:=5) (by omega) ⟨h0,rfl⟩⟩),
  h.o6.fr hf (fun k hk=>hp k ⟨6,by omega,hk⟩),
  fun k hk=>ltl (h.lt k hk) hf.size,h.ap⟩
theorem RcAt.grow {w w':World} {r:Rc} {p:RcP} (h:RcAt w r p) (hf:Below w.1.size w w'):RcAt w' r p:=h.fr (FrP.of_below (P:=fun _=>False) hf) (fun _ _ h=>h)
theorem ykMs_n (k0:Nat) (x:Nat→Ms) (n:Nat):(fun i=>(ykMs k0 x n i).n)=fun i=>(x i).n:=funext fun i=>Xk k0 x n i
theorem ykAk_n (k0:Nat) (x:Nat→Ak) (n:Nat):(fun i=>(ykAk k0 x n i).n)=fun i=>(x i).n:=funext fun i=>Xl k0 x n i
theorem RcAt.set0 {w w':World} {r:Rc} {p:RcP} (h:RcAt w r p) {s:Nat→Sl} (o:SlsAt w' p.A.sa p.g0 r.sf.n s) (hf:FrP (rb p r 0) w w'):RcAt w' { r with sf:={ r.sf with s:=s } } p:=by
 have hrb:∀ i k,rb p { r with sf:={ r.sf with s:=s } } i k↔rb p r i k:=fun i k=>by
  unfold rb
  split<;>first|exact Iff.rfl
 exact ⟨o,h.o1.frP hf (fun h0=>⟨fun hq=>by have:=h.ap 1 0 _ (by omega) (by omega) ⟨h0,rfl⟩ hq;omega,Zr h (j:=1) (by omega) ⟨h0,rfl⟩⟩),h.o2.fr hf (fun k hk hq=>by have:=h.ap 2 0 k (by omega) (by omega) hk hq;omega),h.o3.frP hf (fun h0=>⟨fun hq=>by have:=h.ap 3 0 _ (by omega) (by omega) ⟨h0,rfl⟩ hq;omega,Zr h (j:=3) (by omega) ⟨h0,rfl⟩⟩),h.o4.frP hf (fun h0=>⟨fun hq=>by have:=h.ap 4 0 _ (by omega) (by omega) ⟨h0,rfl⟩ hq;omega,Zr h (j:=4) (by omega) ⟨h0,rfl⟩⟩),h.o5.frP hf (fun h0=>⟨fun hq=>by have:=h.ap 5 0 _ (by omega) (by omega) ⟨h0,rfl⟩ hq;omega,Zr h (j:=5) (by omega) ⟨h0,rfl⟩⟩),h.o6.fr hf (fun k hk hq=>by have:=h.ap 6 0 k (by omega) (by omega) hk hq;omega),
  fun k hk=>ltl (h.lt k (by obtain ⟨i,hi,hk⟩:=hk;exact ⟨i,hi,(hrb i k).1 hk⟩)) hf.size,fun i i' k h1 h2 h3 h4=>h.ap i i' k h1 h2 ((hrb i k).1 h3) ((hrb i' k).1 h4)⟩
theorem RcAt.set1 {w w':World} {r:Rc} {p:RcP} (h:RcAt w r p) {s:Nat→Sl} (o:SlsAt w' p.A.da p.g1 r.dk.n s) (hf:FrP (rb p r 1) w w'):RcAt w' { r with dk:={ r.dk with s:=s } } p:=by
 have hrb:∀ i k,rb p { r with dk:={ r.dk with s:=s } } i k↔rb p r i k:=fun i k=>by
  unfold rb
  split<;>first|exact Iff.rfl
 exact ⟨h.o0.frP hf (fun h0=>⟨fun hq=>by have:=h.ap 0 1 _ (by omega) (by omega) ⟨h0,rfl⟩ hq;omega,Zr h (j:=0) (by omega) ⟨h0,rfl⟩⟩),o,h.o2.fr hf (fun k hk hq=>by have:=h.ap 2 1 k (by omega) (by omega) hk hq;omega),h.o3.frP hf (fun h0=>⟨fun hq=>by have:=h.ap 3 1 _ (by omega) (by omega) ⟨h0,rfl⟩ hq;omega,Zr h (j:=3) (by omega) ⟨h0,rfl⟩⟩),h.o4.frP hf (fun h0=>⟨fun hq=>by have:=h.ap 4 1 _ (by omega) (by omega) ⟨h0,rfl⟩ hq;omega,Zr h (j:=4) (by omega) ⟨h0,rfl⟩⟩),h.o5.frP hf (fun h0=>⟨fun hq=>by have:=h.ap 5 1 _ (by omega) (by omega) ⟨h0,rfl⟩ hq;omega,Zr h (j:=5) (by omega) ⟨h0,rfl⟩⟩),h.o6.fr hf (fun k hk hq=>by have:=h.ap 6 1 k (by omega) (by omega) hk hq;omega),
  fun k hk=>ltl (h.lt k (by obtain ⟨i,hi,hk⟩:=hk;exact ⟨i,hi,(hrb i k).1 hk⟩)) hf.size,fun i i' k h1 h2 h3 h4=>h.ap i i' k h1 h2 ((hrb i k).1 h3) ((hrb i' k).1 h4)⟩
theorem RcAt.set2 {w w':World} {r:Rc} {p:RcP} (h:RcAt w r p) {s:Nat→Ms} (o:MssAt w' p.A.ha p.g2 r.hn s p.HA p.HC p.Hb) (hf:FrP (rb p r 2) w w') (e:(fun i=>(s i).n)=fun i=>(r.hs i).n):RcAt w' { r with hs:=s } p:=by
 have hrb:∀ i k,rb p { r with hs:=s } i k↔rb p r i k:=fun i k=>by
  unfold rb
  split<;>first|exact Iff.rfl|(dsimp only;rw [e])
 exact ⟨h.o0.frP hf (fun h0=>⟨fun hq=>by have:=h.ap 0 2 _ (by omega) (by omega) ⟨h0,rfl⟩ hq;omega,Zr h (j:=0) (by omega) ⟨h0,rfl⟩⟩),h.o1.frP hf (fun h0=>⟨fun hq=>by have:=h.ap 1 2 _ (by omega) (by omega) ⟨h0,rfl⟩ hq;omega,Zr h (j:=1) (by omega) ⟨h0,rfl⟩⟩),o,h.o3.frP hf (fun h0=>⟨fun hq=>by have:=h.ap 3 2 _ (by omega) (by omega) ⟨h0,rfl⟩ hq;omega,Zr h (j:=3) (by omega) ⟨h0,rfl⟩⟩),h.o4.frP hf (fun h0=>⟨fun hq=>by have:=h.ap 4 2 _ (by omega) (by omega) ⟨h0,rfl⟩ hq;omega,Zr h (j:=4) (by omega) ⟨h0,rfl⟩⟩),h.o5.frP hf (fun h0=>⟨fun hq=>by have:=h.ap 5 2 _ (by omega) (by omega) ⟨h0,rfl⟩ hq;omega,Zr h (j:=5) (by omega) ⟨h0,rfl⟩⟩),h.o6.fr hf (fun k hk hq=>by have:=h.ap 6 2 k (by omega) (by omega) hk hq;omega),
  fun k hk=>ltl (h.lt k (by obtain ⟨i,hi,hk⟩:=hk;exact ⟨i,hi,(hrb i k).1 hk⟩)) hf.size,fun i i' k h1 h2 h3 h4=>h.ap i i' k h1 h2 ((hrb i k).1 h3) ((hrb i' k).1 h4)⟩
theorem RcAt.set3 {w w':World} {r:Rc} {p:RcP} (h:RcAt w r p) {s:Nat→ByteArray} (o:StrsOwn w' p.g3 (p.g3+1) p.A.wa r.wn s) (hf:FrP (rb p r 3) w w'):RcAt w' { r with ws:=s } p:=by
 have hrb:∀ i k,rb p { r with ws:=s } i k↔rb p r i k:=fun i k=>by
  unfold rb
  split<;>first|exact Iff.rfl
 exact ⟨h.o0.frP hf (fun h0=>⟨fun hq=>by have:=h.ap 0 3 _ (by omega) (by omega) ⟨h0,rfl⟩ hq;omega,Zr h (j:=0) (by omega) ⟨h0,rfl⟩⟩),h.o1.frP hf (fun h0=>⟨fun hq=>by have:=h.ap 1 3 _ (by omega) (by omega) ⟨h0,rfl⟩ hq;omega,Zr h (j:=1) (by omega) ⟨h0,rfl⟩⟩),h.o2.fr hf (fun k hk hq=>by have:=h.ap 2 3 k (by omega) (by omega) hk hq;omega),o,h.o4.frP hf (fun h0=>⟨fun hq=>by have:=h.ap 4 3 _ (by omega) (by omega) ⟨h0,rfl⟩ hq;omega,Zr h (j:=4) (by omega) ⟨h0,rfl⟩⟩),h.o5.frP hf (fun h0=>⟨fun hq=>by have:=h.ap 5 3 _ (by omega) (by omega) ⟨h0,rfl⟩ hq;omega,Zr h (j:=5) (by omega) ⟨h0,rfl⟩⟩),h.o6.fr hf (fun k hk hq=>by have:=h.ap 6 3 k (by omega) (by omega) hk hq;omega),
  fun k hk=>ltl (h.lt k (by obtain ⟨i,hi,hk⟩:=hk;exact ⟨i,hi,(hrb i k).1 hk⟩)) hf.size,fun i i' k h1 h2 h3 h4=>h.ap i i' k h1 h2 ((hrb i k).1 h3) ((hrb i' k).1 h4)⟩
theorem RcAt.set4 {w w':World} {r:Rc} {p:RcP} (h:RcAt w r p) {s:Nat→Int} (o:IntsOwn w' p.g4 (p.g4+1) p.A.ya r.yn s) (hf:FrP (rb p r 4) w w'):RcAt w' { r with ys:=s } p:=by
 have hrb:∀ i k,rb p { r with ys:=s } i k↔rb p r i k:=fun i k=>by
  unfold rb
  split<;>first|exact Iff.rfl
 exact ⟨h.o0.frP hf (fun h0=>⟨fun hq=>by have:=h.ap 0 4 _ (by omega) (by omega) ⟨h0,rfl⟩ hq;omega,Zr h (j:=0) (by omega) ⟨h0,rfl⟩⟩),h.o1.frP hf (fun h0=>⟨fun hq=>by have:=h.ap 1 4 _ (by omega) (by omega) ⟨h0,rfl⟩ hq;omega,Zr h (j:=1) (by omega) ⟨h0,rfl⟩⟩),h.o2.fr hf (fun k hk hq=>by have:=h.ap 2 4 k (by omega) (by omega) hk hq;omega),h.o3.frP hf (fun h0=>⟨fun hq=>by have:=h.ap 3 4 _ (by omega) (by omega) ⟨h0,rfl⟩ hq;omega,Zr h (j:=3) (by omega) ⟨h0,rfl⟩⟩),o,h.o5.frP hf (fun h0=>⟨fun hq=>by have:=h.ap 5 4 _ (by omega) (by omega) ⟨h0,rfl⟩ hq;omega,Zr h (j:=5) (by omega) ⟨h0,rfl⟩⟩),h.o6.fr hf (fun k hk hq=>by have:=h.ap 6 4 k (by omega) (by omega) hk hq;omega),
  fun k hk=>ltl (h.lt k (by obtain ⟨i,hi,hk⟩:=hk;exact ⟨i,hi,(hrb i k).1 hk⟩)) hf.size,fun i i' k h1 h2 h3 h4=>h.ap i i' k h1 h2 ((hrb i k).1 h3) ((hrb i' k).1 h4)⟩
theorem RcAt.set5 {w w':World} {r:Rc} {p:RcP} (h:RcAt w r p) {s:Nat→Sl} (o:SlsAt w' p.A.ba p.g5 r.bn s) (hf:FrP (rb p r 5) w w'):RcAt w' { r with bs:=s } p:=by
 have hrb:∀ i k,rb p { r with bs:=s } i k↔rb p r i k:=fun i k=>by
  unfold rb
  split<;>first|exact Iff.rfl
 exact ⟨h.o0.frP hf (fun h0=>⟨fun hq=>by have:=h.ap 0 5 _ (by omega) (by omega) ⟨h0,rfl⟩ hq;omega,Zr h (j:=0) (by omega) ⟨h0,rfl⟩⟩),h.o1.frP hf (fun h0=>⟨fun hq=>by have:=h.ap 1 5 _ (by omega) (by omega) ⟨h0,rfl⟩ hq;omega,Zr h (j:=1) (by omega) ⟨h0,rfl⟩⟩),h.o2.fr hf (fun k hk hq=>by have:=h.ap 2 5 k (by omega) (by omega) hk hq;omega),h.o3.frP hf (fun h0=>⟨fun hq=>by have:=h.ap 3 5 _ (by omega) (by omega) ⟨h0,rfl⟩ hq;omega,Zr h (j:=3) (by omega) ⟨h0,rfl⟩⟩),h.o4.frP hf (fun h0=>⟨fun hq=>by have:=h.ap 4 5 _ (by omega) (by omega) ⟨h0,rfl⟩ hq;omega,Zr h (j:=4) (by omega) ⟨h0,rfl⟩⟩),o,h.o6.fr hf (fun k hk hq=>by have:=h.ap 6 5 k (by omega) (by omega) hk hq;omega),
  fun k hk=>ltl (h.lt k (by obtain ⟨i,hi,hk⟩:=hk;exact ⟨i,hi,(hrb i k).1 hk⟩)) hf.size,fun i i' k h1 h2 h3 h4=>h.ap i i' k h1 h2 ((hrb i k).1 h3) ((hrb i' k).1 h4)⟩
theorem RcAt.set6 {w w':World} {r:Rc} {p:RcP} (h:RcAt w r p) {s:Nat→Ak} (o:AksAt w' p.A.aa p.g6 r.an s p.AA p.AC p.Ab) (hf:FrP (rb p r 6) w w') (e:(fun i=>(s i).n)=fun i=>(r.as_ i).n):RcAt w' { r with as_:=s } p:=by
 have hrb:∀ i k,rb p { r with as_:=s } i k↔rb p r i k:=fun i k=>by
  unfold rb
  split<;>first|exact Iff.rfl|(dsimp only;rw [e])
 exact ⟨h.o0.frP hf (fun h0=>⟨fun hq=>by have:=h.ap 0 6 _ (by omega) (by omega) ⟨h0,rfl⟩ hq;omega,Zr h (j:=0) (by omega) ⟨h0,rfl⟩⟩),h.o1.frP hf (fun h0=>⟨fun hq=>by have:=h.ap 1 6 _ (by omega) (by omega) ⟨h0,rfl⟩ hq;omega,Zr h (j:=1) (by omega) ⟨h0,rfl⟩⟩),h.o2.fr hf (fun k hk hq=>by have:=h.ap 2 6 k (by omega) (by omega) hk hq;omega),h.o3.frP hf (fun h0=>⟨fun hq=>by have:=h.ap 3 6 _ (by omega) (by omega) ⟨h0,rfl⟩ hq;omega,Zr h (j:=3) (by omega) ⟨h0,rfl⟩⟩),h.o4.frP hf (fun h0=>⟨fun hq=>by have:=h.ap 4 6 _ (by omega) (by omega) ⟨h0,rfl⟩ hq;omega,Zr h (j:=4) (by omega) ⟨h0,rfl⟩⟩),h.o5.frP hf (fun h0=>⟨fun hq=>by have:=h.ap 5 6 _ (by omega) (by omega) ⟨h0,rfl⟩ hq;omega,Zr h (j:=5) (by omega) ⟨h0,rfl⟩⟩),o,
  fun k hk=>ltl (h.lt k (by obtain ⟨i,hi,hk⟩:=hk;exact ⟨i,hi,(hrb i k).1 hk⟩)) hf.size,fun i i' k h1 h2 h3 h4=>h.ap i i' k h1 h2 ((hrb i k).1 h3) ((hrb i' k).1 h4)⟩
def kk1 (k0:Nat) (r:Rc):Nat:=k0+2*r.sf.n
def kk2 (k0:Nat) (r:Rc):Nat:=kk1 k0 r+2*r.dk.n
def kk3 (k0:Nat) (r:Rc):Nat:=ZS (kk2 k0 r) r.hs r.hn
def kk4 (k0:Nat) (r:Rc):Nat:=kk3 k0 r+r.wn
def kk5 (k0:Nat) (r:Rc):Nat:=kk4 k0 r+r.yn
def kk6 (k0:Nat) (r:Rc):Nat:=kk5 k0 r+2*r.bn
theorem Holds.frP {W W':World} {B:Nat} {c:Array Value} {P:Nat→Prop} (h:Holds W B c) (hb:FrP P W W') (hB:B<W.1.size) (ho:¬P B):Holds W' B c:=fun i=>(hb.cell (p:=⟨B,i,none⟩) hB ho).trans (h i)
def mkRc (k0:Nat) (r:Rc):Nat:=ZT (kk6 k0 r) r.as_ r.an
def ykRc (k0:Nat) (r:Rc):Rc:={ r with sf:={ r.sf with s:=fun i=>slM (k0+2*i) },dk:={ r.dk with s:=fun i=>slM (kk1 k0 r+2*i) },hs:=ykMs (kk2 k0 r) r.hs r.hn,ws:=fun i=>mt (kk3 k0 r+i),ys:=fun i=>((kk4 k0 r+i:Nat):Int),bs:=fun i=>slM (kk5 k0 r+2*i),as_:=ykAk (kk6 k0 r) r.as_ r.an }
theorem rb_yk (p:RcP) (k0:Nat) (r:Rc) (j k:Nat):rb p (ykRc k0 r) j k↔rb p r j k:=by
 unfold rb ykRc
 split<;>first|exact Iff.rfl|(dsimp only;rw [ykMs_n])|(dsimp only;rw [ykAk_n])
theorem rbs_yk (p:RcP) (k0:Nat) (r:Rc) (k:Nat):rbs p (ykRc k0 r) k↔rbs p r k:=
 ⟨fun ⟨j,h1,h2⟩=>⟨j,h1,(rb_yk p k0 r j k).1 h2⟩,fun ⟨j,h1,h2⟩=>⟨j,h1,(rb_yk p k0 r j k).2 h2⟩⟩
theorem kk_mono (k0:Nat) (r:Rc):k0≤kk1 k0 r∧kk1 k0 r≤kk2 k0 r∧kk2 k0 r≤kk3 k0 r∧kk3 k0 r≤kk4 k0 r∧kk4 k0 r≤kk5 k0 r∧kk5 k0 r≤kk6 k0 r∧kk6 k0 r≤mkRc k0 r:=
 ⟨by unfold kk1;omega,by unfold kk2;omega,by unfold kk3;exact XU (kk2 k0 r) r.hs (k:=0) (n:=r.hn) (zle _),by unfold kk4;omega,by unfold kk5;omega,by unfold kk6;omega,by unfold mkRc;exact XV (kk6 k0 r) r.as_ (k:=0) (n:=r.an) (zle _)⟩
theorem markDk_in (d:Dk) (ad:Option Addr) (cap:Nat) (k:Int) (m:Nat) (hk:k=m) (w:World) (b:Nat) (hlt:d.n≠0→b<w.1.size) (hl:(d.n:Int)≤1073741824) (hk1:1≤k) (hk2:k+2*d.n≤1073741824) (hc:SlsAt w ad b d.n d.s) :
  Calls Tryz.prog 55 #[dkV d ad cap,.int .i64 k] w fun e w'=>e=.returned (.int .i64 (k+2*d.n))∧SlsAt w' ad b d.n (fun i=>slM (m+2*i))∧FrP (fun q=>d.n≠0∧q=b) w w':=by
 subst hk
 have HC:=hid hc
 clear hc
 go_enter Tryz.func55,Tryz.ntmps55
 go_wp2_with fail
 refine (XY d.n d.s ad cap _ m rfl _ b (fun h=>ltl (hlt h) (by simp)) hl hk1 hk2 (HC.out.grow (Zb _ _))).mono ?_
 rintro e w1 ⟨rfl,h1,f1⟩
 have H1:=hid h1
 have F1:=hid ((FrP.of_below (Zb _ _)).trans f1)
 clear h1 f1
 go_wp2
 go_ret
 exact ⟨rfl,H1.out,F1.out⟩
theorem heldDk_in (d:Dk) (ad:Option Addr) (cap:Nat) (k:Int) (m:Nat) (hk:k=m) (w:World) (b:Nat) (hlt:d.n≠0→b<w.1.size) (hl:(d.n:Int)≤1073741824) (hk1:1≤k) (hk2:k+2*d.n≤1073741824) (hc:SlsAt w ad b d.n (fun i=>slM (m+2*i))) :
  Calls Tryz.prog 61 #[dkV d ad cap,.int .i64 k] w fun e w'=>e=.returned (.int .i64 (k+2*d.n))∧Below w.1.size w w':=by
 subst hk
 have HC:=hid hc
 clear hc
 go_enter Tryz.func61,Tryz.ntmps61
 go_wp2_with fail
 refine (JN d.n ad cap _ m rfl _ b (fun h=>ltl (hlt h) (by simp)) hl hk1 hk2 (HC.out.grow (Zb _ _))).mono ?_
 rintro e w1 ⟨rfl,h1⟩
 have H1:Below w.1.size w w1:=(Zb _ _).trans (h1.mono (by simp))
 clear h1
 go_wp2
 go_ret
 exact ⟨rfl,H1⟩
theorem Uj (r:Rc) (p:RcP) (k0:Nat) (w:World) (hm:ZW r) (hk1:1≤k0) (hk2:mkRc k0 r≤1073741824) (hc:RcAt w r p) :
  Calls Tryz.prog 12 #[rcV r p.A,.int .i64 k0] w fun e w'=>e=.returned (.int .i64 (mkRc k0 r))∧RcAt w' (ykRc k0 r) p∧FrP (rbs p r) w w':=by
 have HM:=hid hm
 have HC:=hid hc
 clear hm hc
 obtain ⟨m0,m1,m2,m3,m4,m5,m6⟩:=kk_mono k0 r
 have e1:kk1 k0 r≤k0+2*r.sf.n:=lrf _
 have d1:k0+2*r.sf.n≤kk1 k0 r:=lrf _
 have e2:kk2 k0 r≤kk1 k0 r+2*r.dk.n:=lrf _
 have d2:kk1 k0 r+2*r.dk.n≤kk2 k0 r:=lrf _
 have e4:kk4 k0 r≤kk3 k0 r+r.wn:=lrf _
 have d4:kk3 k0 r+r.wn≤kk4 k0 r:=lrf _
 have e5:kk5 k0 r≤kk4 k0 r+r.yn:=lrf _
 have d5:kk4 k0 r+r.yn≤kk5 k0 r:=lrf _
 have e6:kk6 k0 r≤kk5 k0 r+2*r.bn:=lrf _
 have d6:kk5 k0 r+2*r.bn≤kk6 k0 r:=lrf _
 have E3:=hid (show kk3 k0 r=ZS (kk2 k0 r) r.hs r.hn from rfl)
 have E7:=hid (show mkRc k0 r=ZT (kk6 k0 r) r.as_ r.an from rfl)
 have Y:=hid (show ykRc k0 r = { r with sf:={ r.sf with s:=fun i=>slM (k0+2*i) },dk:={ r.dk with s:=fun i=>slM (kk1 k0 r+2*i) },hs:=ykMs (kk2 k0 r) r.hs r.hn,ws:=fun i=>mt (kk3 k0 r+i),ys:=fun i=>((kk4 k0 r+i:Nat):Int),bs:=fun i=>slM (kk5 k0 r+2*i),as_:=ykAk (kk6 k0 r) r.as_ r.an } from rfl)
 generalize mkRc k0 r=k7 at *
 generalize kk6 k0 r=k6 at *
 generalize kk5 k0 r=k5 at *
 generalize kk4 k0 r=k4 at *
 generalize kk3 k0 r=k3 at *
 generalize kk2 k0 r=k2 at *
 generalize kk1 k0 r=k1 at *
 have hB0:=Zb w (.cells (rcC r p.A) 38)
 have H0:=Zt w (rcC r p.A) 38
 have hz0:w.1.size<(w.alloc (.cells (rcC r p.A) 38)).1.size:=by simp
 have R0:=hid (HC.out.grow hB0)
 have F0:=hid (FrP.of_below (P:=rbs p r) hB0)
 go_enter Tryz.func12,Tryz.ntmps12
 go_wp2_with fail
 refine (markDk_in r.sf p.A.sa p.A.sc _ k0 (by omega) _ p.g0 (fun h0=>R0.out.lt _ ⟨0,by omega,h0,rfl⟩) (by have:=HM.out.sf;omega) (by omega) (by omega) R0.out.o0).mono ?_
 rintro e w1 ⟨rfl,o0,f0⟩
 rw [show (k0:Int)+2*r.sf.n=k1 by omega]
 have R1:=hid (R0.out.set0 o0 f0)
 have F1:=hid (F0.out.trans (f0.mono (fun q hq=>(⟨0,by omega,hq⟩:rbs p r q))))
 have H1:Holds w1 w.1.size (rcC r p.A):=Holds.frP H0 f0 (by first|exact hz0|omega) (fun hq=>by have:=HC.out.lt _ (⟨0,by omega,hq⟩:rbs p r _);omega)
 have hz1:w.1.size<w1.1.size:=ltl hz0 f0.size
 clear o0 f0 R0 F0 H0
 obtain ⟨p0,p1,p2,p3,p4,p5,p6,p7,p8,p9,p10,p11,p12,p13,p14,p15,p16,p17⟩:=Ze H1
 go_wp2_with fail
 refine (markDk_in r.dk p.A.da p.A.dc _ k1 (by omega) _ p.g1 (fun h0=>R1.out.lt _ ⟨1,by omega,h0,rfl⟩) (by have:=HM.out.dk;omega) (by omega) (by omega) R1.out.o1).mono ?_
 rintro e w2 ⟨rfl,o1,f1⟩
 rw [show (k1:Int)+2*r.dk.n=k2 by omega]
 have R2:=hid (R1.out.set1 o1 f1)
 have F2:=hid (F1.out.trans (f1.mono (fun q hq=>(⟨1,by omega,hq⟩:rbs p r q))))
 have H2:Holds w2 w.1.size (rcC r p.A):=Holds.frP H1 f1 (by first|exact hz1|omega) (fun hq=>by have:=HC.out.lt _ (⟨1,by omega,hq⟩:rbs p r _);omega)
 have hz2:w.1.size<w2.1.size:=ltl hz1 f1.size
 clear o1 f1 R1 F1 H1 p0 p1 p2 p3 p4 p5 p6 p7 p8 p9 p10 p11 p12 p13 p14 p15 p16 p17
 obtain ⟨p0,p1,p2,p3,p4,p5,p6,p7,p8,p9,p10,p11,p12,p13,p14,p15,p16,p17⟩:=Ze H2
 go_wp2_with fail
 refine (markMss_own p.A.ha p.g2 r.hn r.hs p.HA p.HC p.Hb p.A.hc k2 _ HM.out.hn (by omega) (by rw [←E3.out];omega) R2.out.o2).mono ?_
 rintro e w3 ⟨rfl,o2,f2⟩
 rw [←E3.out]
 have R3:=hid (R2.out.set2 o2 f2 (ykMs_n _ _ _))
 have F3:=hid (F2.out.trans (f2.mono (fun q hq=>(⟨2,by omega,hq⟩:rbs p r q))))
 have H3:Holds w3 w.1.size (rcC r p.A):=Holds.frP H2 f2 (by first|exact hz2|omega) (fun hq=>by have:=HC.out.lt _ (⟨2,by omega,hq⟩:rbs p r _);omega)
 have hz3:w.1.size<w3.1.size:=ltl hz2 f2.size
 clear o2 f2 R2 F2 H2 p0 p1 p2 p3 p4 p5 p6 p7 p8 p9 p10 p11 p12 p13 p14 p15 p16 p17
 obtain ⟨p0,p1,p2,p3,p4,p5,p6,p7,p8,p9,p10,p11,p12,p13,p14,p15,p16,p17⟩:=Ze H3
 go_wp2_with fail
 refine (markStrs_own r.wn r.ws p.A.wa p.A.wc _ k3 (by omega) _ p.g3 (fun h0=>R3.out.lt _ ⟨3,by omega,h0,rfl⟩) (by have:=HM.out.wn;omega) (by omega) (by omega) R3.out.o3).mono ?_
 rintro e w4 ⟨rfl,o3,f3⟩
 rw [show (k3:Int)+r.wn=k4 by omega]
 have R4:=hid (R3.out.set3 o3 f3)
 have F4:=hid (F3.out.trans (f3.mono (fun q hq=>(⟨3,by omega,hq⟩:rbs p r q))))
 have H4:Holds w4 w.1.size (rcC r p.A):=Holds.frP H3 f3 (by first|exact hz3|omega) (fun hq=>by have:=HC.out.lt _ (⟨3,by omega,hq⟩:rbs p r _);omega)
 have hz4:w.1.size<w4.1.size:=ltl hz3 f3.size
 clear o3 f3 R3 F3 H3 p0 p1 p2 p3 p4 p5 p6 p7 p8 p9 p10 p11 p12 p13 p14 p15 p16 p17
 obtain ⟨p0,p1,p2,p3,p4,p5,p6,p7,p8,p9,p10,p11,p12,p13,p14,p15,p16,p17⟩:=Ze H4
 go_wp2_with fail
 refine (J2 r.yn r.ys p.A.ya p.A.yc _ k4 (by omega) _ p.g4 (fun h0=>R4.out.lt _ ⟨4,by omega,h0,rfl⟩) (by have:=HM.out.yn;omega) (by omega) (by omega) R4.out.o4).mono ?_
 rintro e w5 ⟨rfl,o4,f4⟩
 rw [show (k4:Int)+r.yn=k5 by omega]
 have R5:=hid (R4.out.set4 o4 f4)
 have F5:=hid (F4.out.trans (f4.mono (fun q hq=>(⟨4,by omega,hq⟩:rbs p r q))))
 have H5:Holds w5 w.1.size (rcC r p.A):=Holds.frP H4 f4 (by first|exact hz4|omega) (fun hq=>by have:=HC.out.lt _ (⟨4,by omega,hq⟩:rbs p r _);omega)
 have hz5:w.1.size<w5.1.size:=ltl hz4 f4.size
 clear o4 f4 R4 F4 H4 p0 p1 p2 p3 p4 p5 p6 p7 p8 p9 p10 p11 p12 p13 p14 p15 p16 p17
 obtain ⟨p0,p1,p2,p3,p4,p5,p6,p7,p8,p9,p10,p11,p12,p13,p14,p15,p16,p17⟩:=Ze H5
 go_wp2_with fail
 refine (XY r.bn r.bs p.A.ba p.A.bc _ k5 (by omega) _ p.g5 (fun h0=>R5.out.lt _ ⟨5,by omega,h0,rfl⟩) (by have:=HM.out.bn;omega) (by omega) (by omega) R5.out.o5).mono ?_
 rintro e w6 ⟨rfl,o5,f5⟩
 rw [show (k5:Int)+2*r.bn=k6 by omega]
 have R6:=hid (R5.out.set5 o5 f5)
 have F6:=hid (F5.out.trans (f5.mono (fun q hq=>(⟨5,by omega,hq⟩:rbs p r q))))
 have H6:Holds w6 w.1.size (rcC r p.A):=Holds.frP H5 f5 (by first|exact hz5|omega) (fun hq=>by have:=HC.out.lt _ (⟨5,by omega,hq⟩:rbs p r _);omega)
 have hz6:w.1.size<w6.1.size:=ltl hz5 f5.size
 clear o5 f5 R5 F5 H5 p0 p1 p2 p3 p4 p5 p6 p7 p8 p9 p10 p11 p12 p13 p14 p15 p16 p17
 obtain ⟨p0,p1,p2,p3,p4,p5,p6,p7,p8,p9,p10,p11,p12,p13,p14,p15,p16,p17⟩:=Ze H6
 go_wp2_with fail
 refine (markAks_own p.A.aa p.g6 r.an r.as_ p.AA p.AC p.Ab p.A.ac k6 _ HM.out.an (by omega) (by rw [←E7.out];omega) R6.out.o6).mono ?_
 rintro e w7 ⟨rfl,o6,f6⟩
 rw [←E7.out]
 have R7:=hid (R6.out.set6 o6 f6 (ykAk_n _ _ _))
 have F7:=hid (F6.out.trans (f6.mono (fun q hq=>(⟨6,by omega,hq⟩:rbs p r q))))
 clear o6 f6 R6 F6 H6 p0 p1 p2 p3 p4 p5 p6 p7 p8 p9 p10 p11 p12 p13 p14 p15 p16 p17
 go_wp2
 go_ret
 exact ⟨rfl,Y.out▸R7.out,F7.out⟩
theorem Up (r:Rc) (p:RcP) (k0:Nat) (w:World) (hm:ZW r) (hk1:1≤k0) (hk2:mkRc k0 r≤1073741824) (hc:RcAt w (ykRc k0 r) p) :
  Calls Tryz.prog 14 #[rcV r p.A,.int .i64 k0] w fun e w'=>e=.returned (.int .i64 (mkRc k0 r))∧Below w.1.size w w':=by
 have HM:=hid hm
 have HC:=hid hc
 clear hm hc
 obtain ⟨m0,m1,m2,m3,m4,m5,m6⟩:=kk_mono k0 r
 have e1:kk1 k0 r≤k0+2*r.sf.n:=lrf _
 have d1:k0+2*r.sf.n≤kk1 k0 r:=lrf _
 have e2:kk2 k0 r≤kk1 k0 r+2*r.dk.n:=lrf _
 have d2:kk1 k0 r+2*r.dk.n≤kk2 k0 r:=lrf _
 have e4:kk4 k0 r≤kk3 k0 r+r.wn:=lrf _
 have d4:kk3 k0 r+r.wn≤kk4 k0 r:=lrf _
 have e5:kk5 k0 r≤kk4 k0 r+r.yn:=lrf _
 have d5:kk4 k0 r+r.yn≤kk5 k0 r:=lrf _
 have e6:kk6 k0 r≤kk5 k0 r+2*r.bn:=lrf _
 have d6:kk5 k0 r+2*r.bn≤kk6 k0 r:=lrf _
 have E3:=hid (show kk3 k0 r=ZS (kk2 k0 r) r.hs r.hn from rfl)
 have E7:=hid (show mkRc k0 r=ZT (kk6 k0 r) r.as_ r.an from rfl)
 have Y0:Hid (SlsAt w p.A.sa p.g0 r.sf.n (fun i=>slM (k0+2*i))):=HC.out.o0
 have Y1:Hid (SlsAt w p.A.da p.g1 r.dk.n (fun i=>slM (kk1 k0 r+2*i))):=HC.out.o1
 have Y2:Hid (MssAt w p.A.ha p.g2 r.hn (ykMs (kk2 k0 r) r.hs r.hn) p.HA p.HC p.Hb):=HC.out.o2
 have Y3:Hid (StrsOwn w p.g3 (p.g3+1) p.A.wa r.wn (fun i=>mt (kk3 k0 r+i))):=HC.out.o3
 have Y4:Hid (IntsOwn w p.g4 (p.g4+1) p.A.ya r.yn (fun i=>((kk4 k0 r+i:Nat):Int))):=HC.out.o4
 have Y5:Hid (SlsAt w p.A.ba p.g5 r.bn (fun i=>slM (kk5 k0 r+2*i))):=HC.out.o5
 have Y6:Hid (AksAt w p.A.aa p.g6 r.an (ykAk (kk6 k0 r) r.as_ r.an) p.AA p.AC p.Ab):=HC.out.o6
 have YL:Hid (∀ j k,j<7→rb p r j k→k<w.1.size):=fun j k hj hk=>HC.out.lt k ⟨j,hj,(rb_yk p k0 r j k).2 hk⟩
 generalize mkRc k0 r=k7 at *
 generalize kk6 k0 r=k6 at *
 generalize kk5 k0 r=k5 at *
 generalize kk4 k0 r=k4 at *
 generalize kk3 k0 r=k3 at *
 generalize kk2 k0 r=k2 at *
 generalize kk1 k0 r=k1 at *
 have hB0:=Zb w (.cells (rcC r p.A) 38)
 have H0:=Zt w (rcC r p.A) 38
 have hz0:w.1.size<(w.alloc (.cells (rcC r p.A) 38)).1.size:=by simp
 go_enter Tryz.func14,Tryz.ntmps14
 go_wp2_with fail
 refine (heldDk_in r.sf p.A.sa p.A.sc _ k0 (by omega) _ p.g0 (fun h0=>ltl (YL.out 0 _ (by omega) ⟨h0,rfl⟩) hB0.size) (by have:=HM.out.sf;omega) (by omega) (by omega) (Y0.out.frP (FrP.of_below (P:=fun _=>False) hB0) (fun h0=>⟨fun h=>h,YL.out 0 _ (by omega) ⟨h0,rfl⟩⟩))).mono ?_
 rintro e w1 ⟨rfl,b0⟩
 rw [show (k0:Int)+2*r.sf.n=k1 by omega]
 have hB1:Below w.1.size w w1:=hB0.trans (b0.mono hB0.size)
 have H1:Holds w1 w.1.size (rcC r p.A):=H0.below b0 hz0
 have hz1:w.1.size<w1.1.size:=ltl hz0 b0.size
 clear b0 H0
 obtain ⟨p0,p1,p2,p3,p4,p5,p6,p7,p8,p9,p10,p11,p12,p13,p14,p15,p16,p17⟩:=Ze H1
 go_wp2_with fail
 refine (heldDk_in r.dk p.A.da p.A.dc _ k1 (by omega) _ p.g1 (fun h0=>ltl (YL.out 1 _ (by omega) ⟨h0,rfl⟩) hB1.size) (by have:=HM.out.dk;omega) (by omega) (by omega) (Y1.out.frP (FrP.of_below (P:=fun _=>False) hB1) (fun h0=>⟨fun h=>h,YL.out 1 _ (by omega) ⟨h0,rfl⟩⟩))).mono ?_
 rintro e w2 ⟨rfl,b1⟩
 rw [show (k1:Int)+2*r.dk.n=k2 by omega]
 have hB2:Below w.1.size w w2:=hB1.trans (b1.mono hB1.size)
 have H2:Holds w2 w.1.size (rcC r p.A):=H1.below b1 hz1
 have hz2:w.1.size<w2.1.size:=ltl hz1 b1.size
 clear b1 H1 p0 p1 p2 p3 p4 p5 p6 p7 p8 p9 p10 p11 p12 p13 p14 p15 p16 p17
 obtain ⟨p0,p1,p2,p3,p4,p5,p6,p7,p8,p9,p10,p11,p12,p13,p14,p15,p16,p17⟩:=Ze H2
 go_wp2_with fail
 refine (heldMss_own p.A.ha p.g2 r.hn r.hs p.HA p.HC p.Hb p.A.hc k2 _ HM.out.hn (by omega) (by rw [←E3.out];omega) (Y2.out.fr (FrP.of_below (P:=fun _=>False) hB2) (fun _ _ h=>h))).mono ?_
 rintro e w3 ⟨rfl,b2⟩
 rw [←E3.out]
 have hB3:Below w.1.size w w3:=hB2.trans (b2.mono hB2.size)
 have H3:Holds w3 w.1.size (rcC r p.A):=H2.below b2 hz2
 have hz3:w.1.size<w3.1.size:=ltl hz2 b2.size
 clear b2 H2 p0 p1 p2 p3 p4 p5 p6 p7 p8 p9 p10 p11 p12 p13 p14 p15 p16 p17
 obtain ⟨p0,p1,p2,p3,p4,p5,p6,p7,p8,p9,p10,p11,p12,p13,p14,p15,p16,p17⟩:=Ze H3
 go_wp2_with fail
 refine (heldStrs_own r.wn p.A.wa p.A.wc _ k3 (by omega) _ p.g3 (fun h0=>ltl (YL.out 3 _ (by omega) ⟨h0,rfl⟩) hB3.size) (by have:=HM.out.wn;omega) (by omega) (by omega) (Y3.out.frP (FrP.of_below (P:=fun _=>False) hB3) (fun h0=>⟨fun h=>h,YL.out 3 _ (by omega) ⟨h0,rfl⟩⟩))).mono ?_
 rintro e w4 ⟨rfl,b3⟩
 rw [show (k3:Int)+r.wn=k4 by omega]
 have hB4:Below w.1.size w w4:=hB3.trans (b3.mono hB3.size)
 have H4:Holds w4 w.1.size (rcC r p.A):=H3.below b3 hz3
 have hz4:w.1.size<w4.1.size:=ltl hz3 b3.size
 clear b3 H3 p0 p1 p2 p3 p4 p5 p6 p7 p8 p9 p10 p11 p12 p13 p14 p15 p16 p17
 obtain ⟨p0,p1,p2,p3,p4,p5,p6,p7,p8,p9,p10,p11,p12,p13,p14,p15,p16,p17⟩:=Ze H4
 go_wp2_with fail
 refine (J9 r.yn p.A.ya p.A.yc _ k4 (by omega) _ p.g4 (fun h0=>ltl (YL.out 4 _ (by omega) ⟨h0,rfl⟩) hB4.size) (by have:=HM.out.yn;omega) (by omega) (by omega) (Y4.out.frP (FrP.of_below (P:=fun _=>False) hB4) (fun h0=>⟨fun h=>h,YL.out 4 _ (by omega) ⟨h0,rfl⟩⟩))).mono ?_
 rintro e w5 ⟨rfl,b4⟩
 rw [show (k4:Int)+r.yn=k5 by omega]
 have hB5:Below w.1.size w w5:=hB4.trans (b4.mono hB4.size)
 have H5:Holds w5 w.1.size (rcC r p.A):=H4.below b4 hz4
 have hz5:w.1.size<w5.1.size:=ltl hz4 b4.size
 clear b4 H4 p0 p1 p2 p3 p4 p5 p6 p7 p8 p9 p10 p11 p12 p13 p14 p15 p16 p17
 obtain ⟨p0,p1,p2,p3,p4,p5,p6,p7,p8,p9,p10,p11,p12,p13,p14,p15,p16,p17⟩:=Ze H5
 go_wp2_with fail
 refine (JN r.bn p.A.ba p.A.bc _ k5 (by omega) _ p.g5 (fun h0=>ltl (YL.out 5 _ (by omega) ⟨h0,rfl⟩) hB5.size) (by have:=HM.out.bn;omega) (by omega) (by omega) (Y5.out.frP (FrP.of_below (P:=fun _=>False) hB5) (fun h0=>⟨fun h=>h,YL.out 5 _ (by omega) ⟨h0,rfl⟩⟩))).mono ?_
 rintro e w6 ⟨rfl,b5⟩
 rw [show (k5:Int)+2*r.bn=k6 by omega]
 have hB6:Below w.1.size w w6:=hB5.trans (b5.mono hB5.size)
 have H6:Holds w6 w.1.size (rcC r p.A):=H5.below b5 hz5
 have hz6:w.1.size<w6.1.size:=ltl hz5 b5.size
 clear b5 H5 p0 p1 p2 p3 p4 p5 p6 p7 p8 p9 p10 p11 p12 p13 p14 p15 p16 p17
 obtain ⟨p0,p1,p2,p3,p4,p5,p6,p7,p8,p9,p10,p11,p12,p13,p14,p15,p16,p17⟩:=Ze H6
 go_wp2_with fail
 refine (heldAks_own p.A.aa p.g6 r.an r.as_ p.AA p.AC p.Ab p.A.ac k6 _ HM.out.an (by omega) (by rw [←E7.out];omega) (Y6.out.fr (FrP.of_below (P:=fun _=>False) hB6) (fun _ _ h=>h))).mono ?_
 rintro e w7 ⟨rfl,b6⟩
 rw [←E7.out]
 have hB7:Below w.1.size w w7:=hB6.trans (b6.mono hB6.size)
 clear b6 H6 p0 p1 p2 p3 p4 p5 p6 p7 p8 p9 p10 p11 p12 p13 p14 p15 p16 p17
 go_wp2
 go_ret
 exact ⟨rfl,hB7⟩
end Go.Proofs.YtokkbdlofbdljaaGreat
