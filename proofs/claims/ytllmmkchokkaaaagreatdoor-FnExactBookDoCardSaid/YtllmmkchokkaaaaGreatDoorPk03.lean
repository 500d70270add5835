import Derived.Test.YtllmmkchokkaaaaGreatDoorPk01
import Derived.Test.YtllmmkchokkaaaaGreatDoorPk02
set_option maxRecDepth 100000
namespace Go.Proofs.YtllmmkchokkaaaaGreatDoor
open Go.RowKit
structure FrP (P:Nat→Prop) (w w':World):Prop where
 os:w'.os=w.os
 tape:w'.tape=w.tape
 output:w'.output=w.output
 size:w.1.size≤w'.1.size
 block:∀ k,k<w.1.size→¬P k→w'.heap[k]? = w.heap[k]?
theorem FrP.refl (P:Nat→Prop) (w:World):FrP P w w:=⟨rfl,rfl,rfl,Nat.le_refl _,fun _ _ _=>rfl⟩
theorem FrP.trans {P:Nat→Prop} {a b c:World} (h:FrP P a b) (k:FrP P b c):FrP P a c:=
 ⟨k.os.trans h.os,k.tape.trans h.tape,k.output.trans h.output,Nat.le_trans h.size k.size,fun i hi ho=>(k.block i (Nat.lt_of_lt_of_le hi h.size) ho).trans (h.block i hi ho)⟩
theorem FrP.of_below {P:Nat→Prop} {w w':World} (h:Below w.1.size w w'):FrP P w w':=⟨h.os,h.tape,h.output,h.size,fun i hi _=>h.block i hi⟩
theorem FrP.mono {P Q:Nat→Prop} {w w':World} (h:FrP P w w') (e:∀ k,P k→Q k):FrP Q w w':=⟨h.os,h.tape,h.output,h.size,fun i hi hq=>h.block i hi (fun hp=>hq (e i hp))⟩
theorem FrP.setCell {P:Nat→Prop} {a w:World} (h:FrP P a w) {p:Addr} (hp:P p.block) (u:Value):FrP P a (w.setCell p u):=
 h.trans ⟨rfl,rfl,rfl,by simp [World.setCell],fun k _ ho=>Below.heap_setCell _ _ _ _ (fun e=>ho (e▸hp))⟩
theorem FrP.cell {P:Nat→Prop} {w w':World} (h:FrP P w w') {p:Addr} (hp:p.block<w.1.size) (ho:¬P p.block):w'.cell? p=w.cell? p:=World.cell?_of_block (w:=w) (h.block p.block hp ho)
theorem FrP.frozen {P:Nat→Prop} {w w':World} (h:FrP P w w') {p:Addr} (hp:p.block<w.1.size) (ho:¬P p.block):w'.frozen? p=w.frozen? p:=World.frozen?_of_block (w:=w) (h.block p.block hp ho)
theorem FrP.below {P:Nat→Prop} {w w':World} (h:FrP P w w') {B:Nat} (hB:∀ k,k<B→¬P k) (hs:B≤w.1.size):Below B w w':=⟨h.os,h.tape,h.output,h.size,fun k hk=>h.block k (by omega) (hB k hk)⟩
theorem FrP.of_fr {P:Nat→Prop} {lo hi:Nat} {w w':World} (h:Fr lo hi w w') (e:∀ k,lo≤k→k<hi→P k):FrP P w w':=⟨h.os,h.tape,h.output,h.size,fun k hk ho=>h.block k hk (by
 rcases Nat.lt_or_ge k lo with h1|h1
 ·exact Or.inl h1
 ·rcases Nat.lt_or_ge k hi with h2|h2
  ·exact absurd (e k h1 h2) ho
  ·exact Or.inr h2)⟩
theorem FrP.link {P Q:Nat→Prop} {a b c:World} (h:FrP P a b) (_:FrP Q b c):FrP P a b:=h
structure RowF (w:World) (g m:Nat) (c:Nat→Value):Prop where
 lt:g<w.1.size
 free:∀ j,w.frozen? ⟨g,j,none⟩=false
 cell:∀ j,j<m→w.cell? ⟨g,j,none⟩=some (c j)
def setF (c:Nat→Value) (o:Nat) (v:Value):Nat→Value:=fun j=>if j=o then v else c j
theorem RowF.set {w:World} {g m:Nat} {c:Nat→Value} (h:RowF w g m c) {o:Nat} (ho:o<m) (v:Value):RowF (w.setCell ⟨g,o,none⟩ v) g m (setF c o v):=
 ⟨by rw [World.size_setCell];exact h.lt,fun j=>by rw [World.frozen?_setCell];exact h.free j,fun j hj=>by
  unfold setF
  by_cases e:j=o
  ·subst e;rw [if_pos rfl];exact World.cell?_setCell_same _ _ _ (h.cell j hj)
  ·rw [if_neg e,World.cell?_setCell_other _ _ _ _ (fun q=>e (by injection q with _ q2;exact q2.symm))];exact h.cell j hj⟩
theorem RowF.below {w w':World} {g m B:Nat} {c:Nat→Value} (h:RowF w g m c) (hb:Below B w w') (hB:g<B):RowF w' g m c:=
 ⟨Nat.lt_of_lt_of_le h.lt hb.size,fun j=>(hb.frozen (p:=⟨g,j,none⟩) hB).trans (h.free j),fun j hj=>(hb.cell (p:=⟨g,j,none⟩) hB).trans (h.cell j hj)⟩
theorem RowF.fr {w w':World} {g m:Nat} {c:Nat→Value} {P:Nat→Prop} (h:RowF w g m c) (hb:FrP P w w') (hg:¬P g):RowF w' g m c:=
 ⟨Nat.lt_of_lt_of_le h.lt hb.size,fun j=>(hb.frozen (p:=⟨g,j,none⟩) h.lt hg).trans (h.free j),fun j hj=>(hb.cell (p:=⟨g,j,none⟩) h.lt hg).trans (h.cell j hj)⟩
theorem StrsOwn.frP {w w':World} {b:Nat} {ad:Option Addr} {n:Nat} {s:Nat→ByteArray} {P:Nat→Prop} (h:StrsOwn w b (b+1) ad n s) (hb:FrP P w w') (hn:n≠0→¬P b∧b<w.1.size):StrsOwn w' b (b+1) ad n s:=fun i hi=>by
 obtain ⟨q,off,e1,e2,e3,e4,e5⟩:=h i hi
 have:q=b:=by omega
 subst this
 obtain ⟨h1,h2⟩:=hn (by omega)
 exact ⟨q,off,e1,e2,e3,(hb.cell (p:=⟨q,off+i,none⟩) h2 h1).trans e4,(hb.frozen (p:=⟨q,off+i,none⟩) h2 h1).trans e5⟩
theorem markText_at (k:Int) (m:Nat) (hk:k=m) (w:World) (h1:1≤k) (h2:k≤1099511627776) :
  Calls Tryz.prog 107 #[.int .i64 k] w fun e w'=>e=.returned (.string (mt m))∧Below w.1.size w w':=by
 subst hk
 exact markText_any m w h1 h2
theorem markStrs_own (n:Nat) (s:Nat→ByteArray) (ad:Option Addr) (cap:Nat) (k:Int) (m:Nat) (hk:k=m) (w:World) (b:Nat) (hlt:n≠0→b<w.1.size) (hl:(n:Int)≤1073741824) (hk1:1≤k) (hk2:k≤1073741824)
  (hc:StrsOwn w b (b+1) ad n s) :
  Calls Tryz.prog 108 #[.slice ad n cap,.int .i64 k] w fun e w'=>e=.returned (.int .i64 (k+n))∧StrsOwn w' b (b+1) ad n (fun i=>mt (m+i))∧FrP (fun q=>n≠0∧q=b) w w':=by
 subst hk
 by_cases h0:n=0
 ·subst h0
  exact (markStrs_any 0 s ad cap m w 0 0 (Nat.zero_le _) hl hk1 hk2 (fun i hi=>absurd hi (Nat.not_lt_zero _))).mono fun e w' ⟨e1,_,e3⟩=>⟨e1,fun i hi=>absurd hi (Nat.not_lt_zero _),FrP.of_fr e3 (fun k h1 h2=>absurd h2 (Nat.not_lt_zero _))⟩
 ·exact (markStrs_any n s ad cap m w b (b+1) (hlt h0) hl hk1 hk2 hc).mono fun e w' ⟨e1,e2,e3⟩=>⟨e1,e2,FrP.of_fr e3 (fun k h1 h2=>⟨h0,by omega⟩)⟩
theorem heldStrs_own (n:Nat) (ad:Option Addr) (cap:Nat) (k:Int) (m:Nat) (hk:k=m) (w:World) (b:Nat) (hlt:n≠0→b<w.1.size) (hl:(n:Int)≤1073741824) (hk1:1≤k) (hk2:k≤1073741824)
  (hc:StrsOwn w b (b+1) ad n (fun i=>mt (m+i))) :
  Calls Tryz.prog 124 #[.slice ad n cap,.int .i64 k] w fun e w'=>e=.returned (.int .i64 (k+n))∧Below w.1.size w w':=by
 subst hk
 by_cases h0:n=0
 ·subst h0
  exact heldStrs_any 0 ad cap m w 0 0 (Nat.zero_le _) hl hk1 hk2 (fun i hi=>absurd hi (Nat.not_lt_zero _))
 ·exact heldStrs_any n ad cap m w b (b+1) (hlt h0) hl hk1 hk2 hc
structure ApartH (g n:Nat) (N:Nat→Nat) (hb:Nat→Nat):Prop where
 ne:∀ i,i<n→N i≠0→hb i≠g
 inj:∀ i j,i<n→j<n→N i≠0→N j≠0→hb i=hb j→i=j
theorem ApartH.congr {g n:Nat} {N N':Nat→Nat} {hb:Nat→Nat} (h:ApartH g n N hb) (e:∀ i,N i=N' i):ApartH g n N' hb:=by
 have:N=N':=funext e
 subst this;exact h
theorem rem3 {a b:Int} (h:a=b):(a % 3==0)=decide (b % 3=0):=by subst h;rfl
def blkH (g n:Nat) (N:Nat→Nat) (hb:Nat→Nat) (k:Nat):Prop:=(0<n∧k=g)∨∃ i,i<n∧N i≠0∧k=hb i
end Go.Proofs.YtllmmkchokkaaaaGreatDoor
