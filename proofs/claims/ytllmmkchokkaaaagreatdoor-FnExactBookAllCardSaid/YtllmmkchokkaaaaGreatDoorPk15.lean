import Derived.Test.YtllmmkchokkaaaaGreatDoorPk06
import Derived.Test.YtllmmkchokkaaaaGreatDoorPk14
import Derived.Maps.AppendAt
import Derived.Test.YtllmmkchokkaaaaGreatDoorPk07
import Derived.Deep.Cut
import Derived.Deep.CutRange
import Derived.Test.YtllmmkchokkaaaaGreatDoorPk10
import Derived.Deep.RegionLaw
import Derived.Test.YtllmmkchokkaaaaGreatDoorPk05
import Derived.Test.YtllmmkchokkaaaaGreatDoorPk13
set_option maxRecDepth 100000
set_option maxHeartbeats 4000000
namespace Go.Proofs.YtllmmkchokkaaaaGreatDoor
open Go.RowKit
theorem FrP.of_grown {w w':World} {row:Option Nat} (h:w.grownBy w' row):FrP (fun q=>row=some q) w w':=⟨h.os,h.tape,h.output,h.size,fun k hk ho=>h.block k hk (fun e=>ho e.symm)⟩
theorem ownsRow_fr {w w':World} {base e z n:Nat} {v:Value} {xs:List Value} {P:Nat→Prop} (h:w.ownsRow base e z v n xs) (hf:FrP P w w') (hp:∀ g,v.ownBlock=some g→¬P g):w'.ownsRow base e z v n xs:=by
 refine ⟨h.1,?_⟩
 rcases h.2 with h0|⟨g,cap,cur,rfl,h1,h2,h3⟩
 ·exact Or.inl h0
 ·exact Or.inr ⟨g,cap,cur,rfl,h1,(hf.block g (Array.getElem?_eq_some_iff.1 h2).1 (hp g rfl)).trans h2,h3⟩
theorem StrsOwn.one {w:World} {lo hi:Nat} {ad:Option Addr} {n:Nat} {s:Nat→ByteArray} (h:StrsOwn w lo hi ad n s):∃ b,StrsOwn w b (b+1) ad n s∧(n≠0→lo≤b∧b<hi):=by
 by_cases h0:n=0
 ·subst h0;exact ⟨0,StrsOwn.zero,fun h=>absurd rfl h⟩
 ·obtain ⟨b,off,e1,e2,e3,_⟩:=h 0 Za
  refine ⟨b,fun i hi=>?_,fun _=>⟨e2,e3⟩⟩
  obtain ⟨b',off',f1,f2,f3,f4⟩:=h i hi
  rw [e1] at f1
  cases f1
  exact ⟨b,off,e1,Nat.le_refl _,Nat.lt_succ_self _,f4⟩
theorem alloc_news (w:World) (l:List Value) (t:TypeId):∀ j u,l[j]? = some u→(w.alloc (.cells l.toArray t)).cell? ((⟨w.1.size,0,none⟩:Addr).add j)=some u:=by
 intro j u h
 rw [show ((⟨w.1.size,0,none⟩:Addr).add j)=⟨w.1.size,j,none⟩ by unfold Addr.add;split<;>simp_all,World.cell?_alloc_new]
 simpa using h
def appF (c:Nat→Value) (m:Nat) (news:List Value):Nat→Value:=fun j=>if j<m then c j else news.getD (j-m) (.int .i64 0)
theorem appF_zero (c:Nat→Value) (m:Nat) (news:List Value):appF c m news m=news.getD 0 (.int .i64 0):=by
 unfold appF
 rw [if_neg (Nat.lt_irrefl _),Nat.sub_self]
theorem appF_at (c:Nat→Value) (m:Nat) (news:List Value) (j:Nat):appF c m news (m+j)=news.getD j (.int .i64 0):=by
 unfold appF
 rw [if_neg Za,Nat.add_sub_cancel_left]
theorem rowCells_append (c:Nat→Value) (m:Nat) (news:List Value):rowCells m c ++ news=rowCells (m+news.length) (appF c m news):=by
 apply List.ext_getElem
 ·simp [rowCells]
 ·intro j h1 h2
  have hj:j<m+news.length:=by simpa [rowCells] using h2
  rw [rowCells_at,List.getElem_append]
  unfold appF
  by_cases h:j<m
  ·rw [dif_pos (by rw [rowCells_len];exact h),rowCells_at,if_pos h]
  ·rw [dif_neg (by rw [rowCells_len];exact h),if_neg h]
   simp only [rowCells_len]
   rw [List.getD_eq_getElem?_getD,List.getElem?_eq_getElem Za]
   rfl
theorem row_of_own {w:World} {base e z n g cap:Nat} {c:Nat→Value} (h:w.ownsRow base e z (.slice (some ⟨g,0,none⟩) n cap) n (rowCells (n*z) c)):RowF w g (n*z) c:=by
 refine ⟨(h.lt g rfl).2,fun j=>h.frozenAt j,fun j hj=>?_⟩
 rw [h.cellAt j hj,List.getElem?_eq_getElem (by rw [rowCells_len];exact hj),rowCells_at]
structure BdOb (w:World) (base:Nat) (v:Value) (k:Nat) (x:Nat→Ob) (A:Nat→Option Addr) (C hb:Nat→Nat):Prop where
 row:∃ c,w.ownsRow base 118 7 v k (rowCells (k*7) c)∧∀ i,i<k→atOb c i (x i) (A i) (C i)
 hold:∀ i,i<k→StrsOwn w (hb i) (hb i+1) (A i) (x i).hn (x i).hs
 hlt:∀ i,i<k→(x i).hn≠0→base≤hb i∧hb i<w.1.size
 ne:∀ i,i<k→(x i).hn≠0→v.ownBlock≠some (hb i)
 inj:∀ i j,i<k→j<k→(x i).hn≠0→(x j).hn≠0→hb i=hb j→i=j
theorem BdOb.fr {w:World} {base:Nat} {v:Value} {k:Nat} {x:Nat→Ob} {A:Nat→Option Addr} {C hb:Nat→Nat} {w':World} {P:Nat→Prop} (h:BdOb w base v k x A C hb) (hf:FrP P w w') (hp:∀ q,base≤q→q<w.1.size→¬P q):BdOb w' base v k x A C hb:=
 ⟨by obtain ⟨c,r,e⟩:=h.row;exact ⟨c,ownsRow_fr r hf (fun g hg=>hp g (r.lt g hg).1 (r.lt g hg).2),e⟩,fun i hi=>(h.hold i hi).frP hf (fun h0=>⟨hp _ (h.hlt i hi h0).1 (h.hlt i hi h0).2,(h.hlt i hi h0).2⟩),fun i hi h0=>⟨(h.hlt i hi h0).1,Nat.lt_of_lt_of_le (h.hlt i hi h0).2 hf.size⟩,h.ne,h.inj⟩
theorem BdOb.grow {w:World} {base:Nat} {v:Value} {k:Nat} {x:Nat→Ob} {A:Nat→Option Addr} {C hb:Nat→Nat} {w':World} (h:BdOb w base v k x A C hb) (hf:Below w.1.size w w'):BdOb w' base v k x A C hb:=h.fr (FrP.of_below (P:=fun _=>False) hf) (fun _ _ _ h=>h)
theorem apP153 {P:Prop} (h:P:=by
  by_cases e1:i=k
  ·by_cases e2:j=k
   ·rw [e1,e2]
   ·subst e1
    rw [updF_same,updF_ne _ _ e2] at e
    exact absurd e.symm (hd j Za h1 h0)
  ·by_cases e2:j=k
   ·subst e2
    rw [updF_same,updF_ne _ _ e1] at e
    exact absurd e (hd i Za h0 h1)
   ·rw [updF_ne _ _ e1,updF_ne _ _ e2] at e
    exact h.inj i j Za Za h0 h1 e):P:=h
theorem apP154 {P:Prop} (h:P:=by
  by_cases e:i=k
  ·subst e
   rw [updF_same]
   rcases hw with hw|hw
   ·rw [hw];exact hv h0
   ·rw [hw];intro q;cases q;exact Nat.lt_irrefl _ (hl h0).2
  ·rw [updF_ne _ _ e]
   rcases hw with hw|hw
   ·rw [hw];exact h.ne i Za h0
   ·rw [hw];intro q
    have h2:=(h.hlt i Za h0).2
    injection q with q
    omega):P:=h
theorem apP155 {P:Prop} (h:P:=by
  obtain ⟨a0,a1,a2,a3,a4,a5,a6⟩:=hat i Za
  exact ⟨(if_pos Za).trans a0,(if_pos Za).trans a1,(if_pos Za).trans a2,(if_pos Za).trans a3,(if_pos Za).trans a4,(if_pos Za).trans a5,(if_pos Za).trans a6⟩):P:=h
theorem apP156 {P:Prop} (h:P:=by
  by_cases e:i=k
  ·subst e
   rw [updF_same,updF_same]
   exact hs.frP F (fun h0=>⟨hv h0,(hl h0).2⟩)
  ·rw [updF_ne _ _ e,updF_ne _ _ e]
   exact (h.hold i Za).frP F (fun h0=>⟨h.ne i Za h0,(h.hlt i Za h0).2⟩)):P:=h
theorem apP157 {P:Prop} (h:P:=by
  by_cases e:i=k
  ·subst e
   rw [updF_same]
   exact ⟨(hl h0).1,Nat.lt_of_lt_of_le (hl h0).2 hg.size⟩
  ·rw [updF_ne _ _ e]
   exact ⟨(h.hlt i Za h0).1,Nat.lt_of_lt_of_le (h.hlt i Za h0).2 hg.size⟩):P:=h
theorem BdOb.app {w:World} {base:Nat} {v:Value} {k:Nat} {x:Nat→Ob} {A:Nat→Option Addr} {C hb:Nat→Nat} {w':World} {v':Value} {c:Nat→Value} {ad':Option Addr} {cap' b':Nat} (h:BdOb w base v k x A C hb) (hat:∀ i,i<k→atOb c i (x i) (A i) (C i))
  (ho:w'.ownsRow base 118 7 v' (k+1) (rowCells (k*7) c ++ [.string (x k).kind,.string (x k).name,.int .i64 (x k).ver,.int .i64 (x k).born,.string (x k).text,.bool (x k).ending,.slice ad' (x k).hn cap'])) (hg:w.grownBy w' v.ownBlock) (hw:v'.ownBlock=v.ownBlock∨v'.ownBlock=some w.1.size)
  (hs:StrsOwn w b' (b'+1) ad' (x k).hn (x k).hs) (hl:(x k).hn≠0→base≤b'∧b'<w.1.size) (hv:(x k).hn≠0→v.ownBlock≠some b') (hd:∀ i,i<k→(x i).hn≠0→(x k).hn≠0→hb i≠b') :
  BdOb w' base v' (k+1) x (updF A k ad') (updF C k cap') (updF hb k b'):=by
 have F:=FrP.of_grown hg
 refine ⟨⟨appF c (k*7) [.string (x k).kind,.string (x k).name,.int .i64 (x k).ver,.int .i64 (x k).born,.string (x k).text,.bool (x k).ending,.slice ad' (x k).hn cap'],?_,fun i hi=>?_⟩,fun i hi=>?_,fun i hi h0=>?_,fun i hi h0=>?_,fun i j hi hj h0 h1 e=>?_⟩
 ·rw [rowCells_append] at ho
  have e:k*7+([.string (x k).kind,.string (x k).name,.int .i64 (x k).ver,.int .i64 (x k).born,.string (x k).text,.bool (x k).ending,.slice ad' (x k).hn cap']:List Value).length=(k+1)*7:=by show k*7+7=_;omega
  rw [e] at ho
  exact ho
 ·by_cases e:i=k
  ·subst e
   rw [updF_same,updF_same]
   exact ⟨appF_zero _ _ _,appF_at _ _ _ 1,appF_at _ _ _ 2,appF_at _ _ _ 3,appF_at _ _ _ 4,appF_at _ _ _ 5,appF_at _ _ _ 6⟩
  ·rw [updF_ne _ _ e,updF_ne _ _ e]
   exact apP155
 ·exact apP156
 ·exact apP157
 ·exact apP154
 ·exact apP153
theorem BdOb.done {w:World} {base:Nat} {v:Value} {k:Nat} {x:Nat→Ob} {A:Nat→Option Addr} {C hb:Nat→Nat} (h:BdOb w base v k x A C hb):∃ ad cap g,v=.slice ad k cap∧ObsAt w ad g k x A C hb∧∀ q,blkH g k (fun i=>(x i).hn) hb q→base≤q:=by
 obtain ⟨c,r,hat⟩:=h.row
 rcases r.2 with ⟨rfl,rfl⟩|⟨g,cap,cur,rfl,h1,_⟩
 ·exact ⟨none,0,0,rfl,⟨fun h0=>absurd h0 (Nat.lt_irrefl _),fun h0=>absurd h0 (Nat.lt_irrefl _),fun i hi=>absurd hi (Nat.not_lt_zero _),fun i hi=>absurd hi (Nat.not_lt_zero _),⟨fun i hi=>absurd hi (Nat.not_lt_zero _),fun i j hi=>absurd hi (Nat.not_lt_zero _)⟩⟩,fun q hq=>by
   rcases hq with ⟨h0,_⟩|⟨i,hi,_⟩
   ·exact absurd h0 (Nat.lt_irrefl _)
   ·exact absurd hi (Nat.not_lt_zero _)⟩
 ·refine ⟨_,cap,g,rfl,⟨fun _=>rfl,fun _=>⟨c,row_of_own r,hat⟩,h.hold,fun i hi h0=>(h.hlt i hi h0).2,⟨fun i hi h0 e=>h.ne i hi h0 (by rw [e];rfl),h.inj⟩⟩,fun q hq=>?_⟩
  rcases hq with ⟨h0,rfl⟩|⟨i,hi,h0,rfl⟩
  ·exact h1
  ·exact (h.hlt i hi h0).1
structure BdCh (w:World) (base:Nat) (v:Value) (k:Nat) (x:Nat→Ch) (A:Nat→Option Addr) (C hb:Nat→Nat):Prop where
 row:∃ c,w.ownsRow base 120 9 v k (rowCells (k*9) c)∧∀ i,i<k→atCh c i (x i) (A i) (C i)
 hold:∀ i,i<k→StrsOwn w (hb i) (hb i+1) (A i) (x i).ob.hn (x i).ob.hs
 hlt:∀ i,i<k→(x i).ob.hn≠0→base≤hb i∧hb i<w.1.size
 ne:∀ i,i<k→(x i).ob.hn≠0→v.ownBlock≠some (hb i)
 inj:∀ i j,i<k→j<k→(x i).ob.hn≠0→(x j).ob.hn≠0→hb i=hb j→i=j
theorem BdCh.fr {w:World} {base:Nat} {v:Value} {k:Nat} {x:Nat→Ch} {A:Nat→Option Addr} {C hb:Nat→Nat} {w':World} {P:Nat→Prop} (h:BdCh w base v k x A C hb) (hf:FrP P w w') (hp:∀ q,base≤q→q<w.1.size→¬P q):BdCh w' base v k x A C hb:=
 ⟨by obtain ⟨c,r,e⟩:=h.row;exact ⟨c,ownsRow_fr r hf (fun g hg=>hp g (r.lt g hg).1 (r.lt g hg).2),e⟩,fun i hi=>(h.hold i hi).frP hf (fun h0=>⟨hp _ (h.hlt i hi h0).1 (h.hlt i hi h0).2,(h.hlt i hi h0).2⟩),fun i hi h0=>⟨(h.hlt i hi h0).1,Nat.lt_of_lt_of_le (h.hlt i hi h0).2 hf.size⟩,h.ne,h.inj⟩
theorem BdCh.grow {w:World} {base:Nat} {v:Value} {k:Nat} {x:Nat→Ch} {A:Nat→Option Addr} {C hb:Nat→Nat} {w':World} (h:BdCh w base v k x A C hb) (hf:Below w.1.size w w'):BdCh w' base v k x A C hb:=h.fr (FrP.of_below (P:=fun _=>False) hf) (fun _ _ _ h=>h)
theorem BdCh.app {w:World} {base:Nat} {v:Value} {k:Nat} {x:Nat→Ch} {A:Nat→Option Addr} {C hb:Nat→Nat} {w':World} {v':Value} {c:Nat→Value} {ad':Option Addr} {cap' b':Nat} (h:BdCh w base v k x A C hb) (hat:∀ i,i<k→atCh c i (x i) (A i) (C i))
  (ho:w'.ownsRow base 120 9 v' (k+1) (rowCells (k*9) c ++ [.int .i64 (x k).ver,.bool (x k).gone,.string (x k).ob.kind,.string (x k).ob.name,.int .i64 (x k).ob.ver,.int .i64 (x k).ob.born,.string (x k).ob.text,.bool (x k).ob.ending,.slice ad' (x k).ob.hn cap'])) (hg:w.grownBy w' v.ownBlock) (hw:v'.ownBlock=v.ownBlock∨v'.ownBlock=some w.1.size)
  (hs:StrsOwn w b' (b'+1) ad' (x k).ob.hn (x k).ob.hs) (hl:(x k).ob.hn≠0→base≤b'∧b'<w.1.size) (hv:(x k).ob.hn≠0→v.ownBlock≠some b') (hd:∀ i,i<k→(x i).ob.hn≠0→(x k).ob.hn≠0→hb i≠b') :
  BdCh w' base v' (k+1) x (updF A k ad') (updF C k cap') (updF hb k b'):=by
 have F:=FrP.of_grown hg
 refine ⟨⟨appF c (k*9) [.int .i64 (x k).ver,.bool (x k).gone,.string (x k).ob.kind,.string (x k).ob.name,.int .i64 (x k).ob.ver,.int .i64 (x k).ob.born,.string (x k).ob.text,.bool (x k).ob.ending,.slice ad' (x k).ob.hn cap'],?_,fun i hi=>?_⟩,fun i hi=>?_,fun i hi h0=>?_,fun i hi h0=>?_,fun i j hi hj h0 h1 e=>?_⟩
 ·rw [rowCells_append] at ho
  have e:k*9+([.int .i64 (x k).ver,.bool (x k).gone,.string (x k).ob.kind,.string (x k).ob.name,.int .i64 (x k).ob.ver,.int .i64 (x k).ob.born,.string (x k).ob.text,.bool (x k).ob.ending,.slice ad' (x k).ob.hn cap']:List Value).length=(k+1)*9:=by show k*9+9=_;omega
  rw [e] at ho
  exact ho
 ·by_cases e:i=k
  ·subst e
   rw [updF_same,updF_same]
   exact ⟨appF_zero _ _ _,appF_at _ _ _ 1,appF_at _ _ _ 2,appF_at _ _ _ 3,appF_at _ _ _ 4,appF_at _ _ _ 5,appF_at _ _ _ 6,appF_at _ _ _ 7,appF_at _ _ _ 8⟩
  ·rw [updF_ne _ _ e,updF_ne _ _ e]
   obtain ⟨a0,a1,a2,a3,a4,a5,a6,a7,a8⟩:=hat i Za
   exact ⟨(if_pos Za).trans a0,(if_pos Za).trans a1,(if_pos Za).trans a2,(if_pos Za).trans a3,(if_pos Za).trans a4,(if_pos Za).trans a5,(if_pos Za).trans a6,(if_pos Za).trans a7,(if_pos Za).trans a8⟩
 ·exact apP156
 ·exact apP157
 ·exact apP154
 ·exact apP153
theorem BdCh.done {w:World} {base:Nat} {v:Value} {k:Nat} {x:Nat→Ch} {A:Nat→Option Addr} {C hb:Nat→Nat} (h:BdCh w base v k x A C hb):∃ ad cap g,v=.slice ad k cap∧k≤cap∧ChsAt w ad g k x A C hb∧∀ q,blkH g k (fun i=>(x i).ob.hn) hb q→base≤q:=by
 obtain ⟨c,r,hat⟩:=h.row
 rcases r.2 with ⟨rfl,rfl⟩|⟨g,cap,cur,rfl,h1,_,hcap,_⟩
 ·exact ⟨none,0,0,rfl,Nat.le_refl _,⟨fun h0=>absurd h0 (Nat.lt_irrefl _),fun h0=>absurd h0 (Nat.lt_irrefl _),fun i hi=>absurd hi (Nat.not_lt_zero _),fun i hi=>absurd hi (Nat.not_lt_zero _),⟨fun i hi=>absurd hi (Nat.not_lt_zero _),fun i j hi=>absurd hi (Nat.not_lt_zero _)⟩⟩,fun q hq=>by
   rcases hq with ⟨h0,_⟩|⟨i,hi,_⟩
   ·exact absurd h0 (Nat.lt_irrefl _)
   ·exact absurd hi (Nat.not_lt_zero _)⟩
 ·refine ⟨_,cap,g,rfl,hcap,⟨fun _=>rfl,fun _=>⟨c,row_of_own r,hat⟩,h.hold,fun i hi h0=>(h.hlt i hi h0).2,⟨fun i hi h0 e=>h.ne i hi h0 (by rw [e];rfl),h.inj⟩⟩,fun q hq=>?_⟩
  rcases hq with ⟨h0,rfl⟩|⟨i,hi,h0,rfl⟩
  ·exact h1
  ·exact (h.hlt i hi h0).1
theorem specObs_any (n:Nat) (x:Nat→Ob) (ad:Option Addr) (cap:Nat) (w:World) (lo hi:Nat) (hhi:hi≤w.1.size) (hl:(n:Int)≤1048576) (hf:∀ i,i<n→ObFit (x i)) (hc:ObjsIn w lo hi ad n x) :
  Calls Tryz.prog 78 #[.slice ad n cap] w fun e w'=>∃ ad' cap' g A C hb,e=.returned (.slice ad' n cap')∧ObsAt w' ad' g n x A C hb∧(∀ q,blkH g n (fun i=>(x i).hn) hb q→w.1.size≤q)∧Below w.1.size w w':=by
 obtain ⟨i0,hi0,hz0,hz1,hz2⟩:=info_parts Tryz.info118
 have HC:=hid hc
 have HF:=hid hf
 clear hc hf
 go_enter Tryz.func78,Tryz.ntmps78
 go_wp2
 have bd0:BdOb (w.alloc (.cells #[] 118)) w.1.size (.slice (some ⟨w.1.size,0,none⟩) 0 0) 0 x (fun _=>none) (fun _=>0) (fun _=>0):=
  ⟨⟨fun _=>.int .i64 0,by simpa [rowCells] using World.ownsRow_made (base:=w.1.size) (e:=118) (size:=7) w #[] 0 Zbt Zbw rfl,fun i hi=>absurd hi (Nat.not_lt_zero _)⟩,fun i hi=>absurd hi (Nat.not_lt_zero _),fun i hi=>absurd hi (Nat.not_lt_zero _),fun i hi=>absurd hi (Nat.not_lt_zero _),fun i j hi=>absurd hi (Nat.not_lt_zero _)⟩
 go_loopw [3,4] (fun o i wr=>∃ (k:Nat) (A:Nat→Option Addr) (C hb:Nat→Nat),k≤n∧i=.int .i64 k∧Below w.1.size w wr∧BdOb wr w.1.size o k x A C hb) (fun _ i _=>n-(intOf i).toNat)
 case atStart=>exact ⟨0,_,_,_,Nat.zero_le _,rfl,below_alloc _ _,bd0⟩
 case round=>
  clear bd0
  obtain ⟨k,A,C,hb,hk,rfl,b0,bd⟩:=hrel
  by_cases hkn:k<n
  ·obtain ⟨b,off,ah,ch,rfl,hlo,hbh,hcx,hsx⟩:=HC.out k hkn
   have hfk:=(HF.out k hkn).h
   obtain ⟨e0,e1,e2,e3,e4,e5,e6⟩:=hcx.below b0 Za
   have HSX:=hid (hsx.below b0 hhi)
   have zr:=b0.size
   have BD:=hid bd
   clear hcx hsx bd
   go_wp2_with fail
   refine (specOb_any (x k) ah ch _ lo hi Za hfk HSX.out).mono ?_
   rintro e w1 ⟨ad',cap',rfl,_,hs1,hb1⟩
   obtain ⟨b',ho1,hl1⟩:=hs1.one
   have z1:=hb1.size
   have HO1:=hid ho1
   have HL1:=hid hl1
   have BD1:=hid ((BD.out.grow hb1).grow (below_alloc w1 (.cells #[.string (x k).kind,.string (x k).name,.int .i64 (x k).ver,.int .i64 (x k).born,.string (x k).text,.bool (x k).ending,.slice ad' (x k).hn cap'] 118)))
   obtain ⟨c,hown,hat⟩:=BD1.out.row
   have HAT:=hid hat
   clear hs1 ho1 hl1 e0 e1 e2 e3 e4 e5 e6 hat
   go_wp2_with (at_builtin;go_must (refine wpList_append_own_at _ rfl _ _ 31 rfl w.1.size 118 i0 _ 7 96 Tryz.underlying31 hi0 hz0 hz1 hz2 rfl Zb _ k (rowCells (k*7) c) rfl hown ⟨w1.1.size,0,none⟩ 1 1 [.string (x k).kind,.string (x k).name,.int .i64 (x k).ver,.int .i64 (x k).born,.string (x k).text,.bool (x k).ending,.slice ad' (x k).hn cap'] rfl rfl (alloc_news w1 _ 118) Zbi Zs Za Zc ?_;intro v' w2 hown2 hgrow2 hnil2 hat2;clear hnil2))
   have hg2:=hgrow2.size
   have FB:∀ o,FrP (fun _=>False) w1 (w1.alloc o):=fun o=>FrP.of_below (below_alloc w1 o)
   have BD2:=hid (BD1.out.app (cap':=cap') HAT.out hown2 hgrow2 hat2 (HO1.out.frP (FB _) (fun h0=>⟨fun h=>h,(HL1.out h0).2⟩)) (fun h0=>⟨by have:=(HL1.out h0).1;omega,by have:=(HL1.out h0).2;simp;omega⟩)
    (fun h0 e=>by
     obtain ⟨c0,r0,_⟩:=BD.out.row
     have h1:=(r0.lt _ e).2
     have h2:=(HL1.out h0).1
     omega)
    (fun i hi h0 h1 e=>by
     have h2:=(BD.out.hlt i hi h0).2
     have h3:=(HL1.out h1).1
     omega))
   have B2:Below w.1.size w w2:=by
    obtain ⟨c0,r0,_⟩:=BD.out.row
    exact ((b0.trans (hb1.mono zr)).alloc Za _).trans ((FrP.of_grown hgrow2).below (fun q hq e=>by have:=(r0.lt q e).1;omega) Zc)
   clear hown hown2 hgrow2 hat2 FB
   go_wp2
   go_roundw
   case rel=>exact ⟨k+1,_,_,_,Za,by go_num,B2,BD2.out⟩
   case measure=>simp [intOf];omega
  ·have hke:k=n:=Za
   subst hke
   obtain ⟨ad',cap',g,e,at',hq⟩:=bd.done
   subst e
   have AT':=hid at'
   clear at' bd
   go_wp2
   go_ret
   exact ⟨ad',cap',g,A,C,hb,rfl,AT'.out,hq,b0⟩
theorem specChs_any (n:Nat) (x:Nat→Ch) (ad:Option Addr) (cap:Nat) (w:World) (lo hi:Nat) (hhi:hi≤w.1.size) (hl:(n:Int)≤1048576) (hf:∀ i,i<n→ObFit (x i).ob) (hc:ChgsIn w lo hi ad n x) :
  Calls Tryz.prog 79 #[.slice ad n cap] w fun e w'=>∃ ad' cap' g A C hb,e=.returned (.slice ad' n cap')∧n≤cap'∧ChsAt w' ad' g n x A C hb∧(∀ q,blkH g n (fun i=>(x i).ob.hn) hb q→w.1.size≤q)∧Below w.1.size w w':=by
 obtain ⟨i0,hi0,hz0,hz1,hz2⟩:=info_parts Tryz.info120
 have HC:=hid hc
 have HF:=hid hf
 clear hc hf
 go_enter Tryz.func79,Tryz.ntmps79
 go_wp2
 have bd0:BdCh (w.alloc (.cells #[] 120)) w.1.size (.slice (some ⟨w.1.size,0,none⟩) 0 0) 0 x (fun _=>none) (fun _=>0) (fun _=>0):=
  ⟨⟨fun _=>.int .i64 0,by simpa [rowCells] using World.ownsRow_made (base:=w.1.size) (e:=120) (size:=9) w #[] 0 Zbt Zbw rfl,fun i hi=>absurd hi (Nat.not_lt_zero _)⟩,fun i hi=>absurd hi (Nat.not_lt_zero _),fun i hi=>absurd hi (Nat.not_lt_zero _),fun i hi=>absurd hi (Nat.not_lt_zero _),fun i j hi=>absurd hi (Nat.not_lt_zero _)⟩
 go_loopw [3,4] (fun o i wr=>∃ (k:Nat) (A:Nat→Option Addr) (C hb:Nat→Nat),k≤n∧i=.int .i64 k∧Below w.1.size w wr∧BdCh wr w.1.size o k x A C hb) (fun _ i _=>n-(intOf i).toNat)
 case atStart=>exact ⟨0,_,_,_,Nat.zero_le _,rfl,below_alloc _ _,bd0⟩
 case round=>
  clear bd0
  obtain ⟨k,A,C,hb,hk,rfl,b0,bd⟩:=hrel
  by_cases hkn:k<n
  ·obtain ⟨b,off,ah,ch,rfl,hlo,hbh,hcx,hsx⟩:=HC.out k hkn
   have hfk:=(HF.out k hkn).h
   obtain ⟨e0,e1,e2,e3,e4,e5,e6,e7,e8⟩:=hcx.below b0 Za
   have zr:=b0.size
   have HSX:=hid (fun o=>(hsx.below b0 hhi).alloc Za o)
   have BD:=hid bd
   clear hcx hsx bd
   go_wp2_with fail
   refine (specOb_any (x k).ob ah ch _ lo hi Zc hfk (HSX.out _)).mono ?_
   rintro e w1 ⟨ad',cap',rfl,_,hs1,hb1⟩
   obtain ⟨b',ho1,hl1⟩:=hs1.one
   have z1:wr.1.size+1≤w1.1.size:=by have:=hb1.size;simpa using this
   have HO1:=hid ho1
   have HL1:Hid ((x k).ob.hn≠0→wr.1.size+1≤b'∧b'<w1.1.size):=fun h0=>by have:=hl1 h0;simpa using this
   have rv:RowF w1 wr.1.size 9 (vec [.int .i64 (x k).ver,.bool (x k).gone,.string (x k).ob.kind,.string (x k).ob.name,.int .i64 (x k).ob.ver,.int .i64 (x k).ob.born,.string (x k).ob.text,.bool (x k).ob.ending,.slice ah (x k).ob.hn ch]):=RowF.new (w:=wr) (l:=[.int .i64 (x k).ver,.bool (x k).gone,.string (x k).ob.kind,.string (x k).ob.name,.int .i64 (x k).ob.ver,.int .i64 (x k).ob.born,.string (x k).ob.text,.bool (x k).ob.ending,.slice ah (x k).ob.hn ch]) (t:=120) hb1
   have RV:=hid rv
   have q0:=rv.cell 0 Za
   have q1:=rv.cell 1 Za
   have q2:=rv.cell 2 Za
   have q3:=rv.cell 3 Za
   have q4:=rv.cell 4 Za
   have q5:=rv.cell 5 Za
   have q6:=rv.cell 6 Za
   have q7:=rv.cell 7 Za
   have q8:=rv.cell 8 Za
   have qf:=rv.free
   simp only [vec,List.getD_cons_zero,List.getD_cons_succ] at q0 q1 q2 q3 q4 q5 q6 q7 q8
   have hbw:Below wr.1.size wr w1:=(below_alloc _ _).trans (hb1.mono Zd)
   have HBW:=hid hbw
   clear hs1 ho1 hl1 e0 e1 e2 e3 e4 e5 e6 e7 e8 rv hb1 hbw
   have hBW:Below wr.1.size wr (((((((w1.setCell ⟨wr.1.size,2,none⟩ (.string (x k).ob.kind)).setCell ⟨wr.1.size,3,none⟩ (.string (x k).ob.name)).setCell ⟨wr.1.size,4,none⟩ (.int .i64 (x k).ob.ver)).setCell ⟨wr.1.size,5,none⟩ (.int .i64 (x k).ob.born)).setCell ⟨wr.1.size,6,none⟩ (.string (x k).ob.text)).setCell ⟨wr.1.size,7,none⟩ (.bool (x k).ob.ending)).setCell ⟨wr.1.size,8,none⟩ (.slice ad' (x k).ob.hn cap')):=by
    iterate 7 refine Below.setCell ?_ Zd _
    exact HBW.out
   have zS:(((((((w1.setCell ⟨wr.1.size,2,none⟩ (.string (x k).ob.kind)).setCell ⟨wr.1.size,3,none⟩ (.string (x k).ob.name)).setCell ⟨wr.1.size,4,none⟩ (.int .i64 (x k).ob.ver)).setCell ⟨wr.1.size,5,none⟩ (.int .i64 (x k).ob.born)).setCell ⟨wr.1.size,6,none⟩ (.string (x k).ob.text)).setCell ⟨wr.1.size,7,none⟩ (.bool (x k).ob.ending)).setCell ⟨wr.1.size,8,none⟩ (.slice ad' (x k).ob.hn cap')).1.size=w1.1.size:=Zd
   have BD1:=hid (BD.out.grow (hBW.alloc (by rw [zS];omega) (.cells #[.int .i64 (x k).ver,.bool (x k).gone,.string (x k).ob.kind,.string (x k).ob.name,.int .i64 (x k).ob.ver,.int .i64 (x k).ob.born,.string (x k).ob.text,.bool (x k).ob.ending,.slice ad' (x k).ob.hn cap'] 120)))
   obtain ⟨c,hown,hat⟩:=BD1.out.row
   have HAT:=hid hat
   have FS:FrP (fun q=>q=wr.1.size) w1 (((((((w1.setCell ⟨wr.1.size,2,none⟩ (.string (x k).ob.kind)).setCell ⟨wr.1.size,3,none⟩ (.string (x k).ob.name)).setCell ⟨wr.1.size,4,none⟩ (.int .i64 (x k).ob.ver)).setCell ⟨wr.1.size,5,none⟩ (.int .i64 (x k).ob.born)).setCell ⟨wr.1.size,6,none⟩ (.string (x k).ob.text)).setCell ⟨wr.1.size,7,none⟩ (.bool (x k).ob.ending)).setCell ⟨wr.1.size,8,none⟩ (.slice ad' (x k).ob.hn cap')):=by
    iterate 7 refine FrP.setCell (P:=fun q=>q=wr.1.size) ?_ (by rfl) _
    exact FrP.refl _ _
   have HO2:=hid ((HO1.out.frP FS (fun h0=>⟨by have:=(HL1.out h0).1;omega,(HL1.out h0).2⟩)).frP (FrP.of_below (P:=fun _=>False) (below_alloc (((((((w1.setCell ⟨wr.1.size,2,none⟩ (.string (x k).ob.kind)).setCell ⟨wr.1.size,3,none⟩ (.string (x k).ob.name)).setCell ⟨wr.1.size,4,none⟩ (.int .i64 (x k).ob.ver)).setCell ⟨wr.1.size,5,none⟩ (.int .i64 (x k).ob.born)).setCell ⟨wr.1.size,6,none⟩ (.string (x k).ob.text)).setCell ⟨wr.1.size,7,none⟩ (.bool (x k).ob.ending)).setCell ⟨wr.1.size,8,none⟩ (.slice ad' (x k).ob.hn cap')) (.cells #[.int .i64 (x k).ver,.bool (x k).gone,.string (x k).ob.kind,.string (x k).ob.name,.int .i64 (x k).ob.ver,.int .i64 (x k).ob.born,.string (x k).ob.text,.bool (x k).ob.ending,.slice ad' (x k).ob.hn cap'] 120))) (fun h0=>⟨fun h=>h,by rw [zS];exact (HL1.out h0).2⟩))
   have HBW2:=hid (hBW.alloc (by rw [zS];omega) (.cells #[.int .i64 (x k).ver,.bool (x k).gone,.string (x k).ob.kind,.string (x k).ob.name,.int .i64 (x k).ob.ver,.int .i64 (x k).ob.born,.string (x k).ob.text,.bool (x k).ob.ending,.slice ad' (x k).ob.hn cap'] 120))
   have hown':=hid hown
   clear hat FS hBW zS hown
   go_wp2_with (at_builtin;go_must (refine wpList_append_own_at _ rfl _ _ 32 rfl w.1.size 120 i0 _ 9 112 Tryz.underlying32 hi0 hz0 hz1 hz2 rfl Zb _ k (rowCells (k*9) c) rfl hown'.out ⟨w1.1.size,0,none⟩ 1 1 [.int .i64 (x k).ver,.bool (x k).gone,.string (x k).ob.kind,.string (x k).ob.name,.int .i64 (x k).ob.ver,.int .i64 (x k).ob.born,.string (x k).ob.text,.bool (x k).ob.ending,.slice ad' (x k).ob.hn cap'] rfl rfl (by have h:=alloc_news (((((((w1.setCell ⟨wr.1.size,2,none⟩ (.string (x k).ob.kind)).setCell ⟨wr.1.size,3,none⟩ (.string (x k).ob.name)).setCell ⟨wr.1.size,4,none⟩ (.int .i64 (x k).ob.ver)).setCell ⟨wr.1.size,5,none⟩ (.int .i64 (x k).ob.born)).setCell ⟨wr.1.size,6,none⟩ (.string (x k).ob.text)).setCell ⟨wr.1.size,7,none⟩ (.bool (x k).ob.ending)).setCell ⟨wr.1.size,8,none⟩ (.slice ad' (x k).ob.hn cap')) [.int .i64 (x k).ver,.bool (x k).gone,.string (x k).ob.kind,.string (x k).ob.name,.int .i64 (x k).ob.ver,.int .i64 (x k).ob.born,.string (x k).ob.text,.bool (x k).ob.ending,.slice ad' (x k).ob.hn cap'] 120;simpa using h) Zbi Zs Za Zc ?_;intro v' w2 hown2 hgrow2 hnil2 hat2;clear hnil2))
   have hg2:=hgrow2.size
   have BD2:=hid (BD1.out.app (cap':=cap') HAT.out hown2 hgrow2 hat2 HO2.out (fun h0=>⟨by have:=(HL1.out h0).1;omega,by have:=(HL1.out h0).2;simp;omega⟩)
    (fun h0 e=>by
     obtain ⟨c0,r0,_⟩:=BD.out.row
     have h1:=(r0.lt _ e).2
     have h2:=(HL1.out h0).1
     omega)
    (fun i hi h0 h1 e=>by
     have h2:=(BD.out.hlt i hi h0).2
     have h3:=(HL1.out h1).1
     omega))
   have B2:Below w.1.size w w2:=by
    obtain ⟨c0,r0,_⟩:=BD.out.row
    exact (b0.trans (HBW2.out.mono zr)).trans ((FrP.of_grown hgrow2).below (fun q hq e=>by have:=(r0.lt q e).1;omega) Zc)
   clear hown2 hgrow2 hat2
   go_roundw
   case rel=>exact ⟨k+1,_,_,_,Za,by go_num,B2,BD2.out⟩
   case measure=>simp [intOf];omega
  ·have hke:k=n:=Za
   subst hke
   obtain ⟨ad',cap',g,e,hcp,at',hq⟩:=bd.done
   subst e
   have AT':=hid at'
   clear at' bd
   go_wp2
   go_ret
   exact ⟨ad',cap',g,A,C,hb,rfl,hcp,AT'.out,hq,b0⟩
end Go.Proofs.YtllmmkchokkaaaaGreatDoor
namespace Go.Proofs.YtllmmkchokkaaaaGreatDoor
open Go.RowKit
structure PS where
 m:Nat
 y:Nat→Ob
 done:Bool
def putStep (o xi:Ob) (s:PS):PS:=
 if s.done then (if keyI xi o=0 then s else ⟨s.m+1,updF s.y s.m xi,true⟩)
 else if keyI xi o<0 then ⟨s.m+1,updF s.y s.m xi,false⟩
 else if keyI xi o=0 then ⟨s.m+1,updF s.y s.m o,true⟩
 else ⟨s.m+1+1,updF (updF s.y s.m o) (s.m+1) xi,true⟩
def putTo (x:Nat→Ob) (o:Ob) (gone:Bool):Nat→PS
 | 0=>⟨0,fun _=>o,gone⟩
 | i+1=>putStep o (x i) (putTo x o gone i)
def putEnd (o:Ob) (s:PS):PS:=if s.done then s else ⟨s.m+1,updF s.y s.m o,true⟩
def putAll (n:Nat) (x:Nat→Ob) (o:Ob) (gone:Bool):PS:=putEnd o (putTo x o gone n)
theorem putTo_le (x:Nat→Ob) (o:Ob) (gone:Bool):∀ k,(putTo x o gone k).m+(if (putTo x o gone k).done then 0 else 1)≤k+1
 | 0=>by
  show 0+(if gone then 0 else 1)≤1
  split<;>omega
 | k+1=>by
  have ih:=putTo_le x o gone k
  show (putStep o (x k) (putTo x o gone k)).m+(if (putStep o (x k) (putTo x o gone k)).done then 0 else 1)≤k+1+1
  unfold putStep
  cases hd:(putTo x o gone k).done with
  | true=>
   rw [hd] at ih
   simp only [if_true] at ih ⊢
   split
   ·omega
   ·simp;omega
  | false=>
   rw [hd] at ih
   simp only [Bool.false_eq_true,if_false] at ih ⊢
   split
   ·simp;omega
   ·split
    ·simp;omega
    ·simp;omega
theorem StrsIn.frP {w w':World} {lo hi:Nat} {ad:Option Addr} {n:Nat} {s:Nat→ByteArray} {P:Nat→Prop} (h:StrsIn w lo hi ad n s) (hf:FrP P w w') (hh:hi≤w.1.size) (hp:∀ q,q<hi→¬P q):StrsIn w' lo hi ad n s:=fun i hi'=>by
 obtain ⟨b,off,e1,e2,e3,e4⟩:=h i hi'
 exact ⟨b,off,e1,e2,e3,(hf.cell (p:=⟨b,off+i,none⟩) (Nat.lt_of_lt_of_le e3 hh) (hp b e3)).trans e4⟩
structure BdR (w:World) (base lo hi:Nat) (v:Value) (m:Nat) (y:Nat→Ob) (A:Nat→Option Addr) (C:Nat→Nat):Prop where
 row:∃ c,w.ownsRow base 118 7 v m (rowCells (m*7) c)∧∀ i,i<m→atOb c i (y i) (A i) (C i)
 hold:∀ i,i<m→StrsIn w lo hi (A i) (y i).hn (y i).hs
theorem BdR.grow {w w':World} {base lo hi:Nat} {v:Value} {m:Nat} {y:Nat→Ob} {A:Nat→Option Addr} {C:Nat→Nat} (h:BdR w base lo hi v m y A C) (hh:hi≤w.1.size) (hf:Below w.1.size w w'):BdR w' base lo hi v m y A C:=
 ⟨by obtain ⟨c,r,e⟩:=h.row;exact ⟨c,ownsRow_fr r (FrP.of_below (P:=fun _=>False) hf) (fun _ _ h=>h),e⟩,fun i hi'=>(h.hold i hi').frP (FrP.of_below (P:=fun _=>False) hf) hh (fun _ _ h=>h)⟩
theorem BdR.app {w w':World} {base lo hi:Nat} {v v':Value} {m:Nat} {y:Nat→Ob} {A:Nat→Option Addr} {C:Nat→Nat} {c:Nat→Value} {o:Ob} {ad':Option Addr} {cap':Nat} (h:BdR w base lo hi v m y A C) (hat:∀ i,i<m→atOb c i (y i) (A i) (C i))
  (ho:w'.ownsRow base 118 7 v' (m+1) (rowCells (m*7) c ++ [.string o.kind,.string o.name,.int .i64 o.ver,.int .i64 o.born,.string o.text,.bool o.ending,.slice ad' o.hn cap'])) (hg:w.grownBy w' v.ownBlock) (hv:∀ q,v.ownBlock=some q→base≤q) (hs:StrsIn w lo hi ad' o.hn o.hs) (hhb:hi≤base) (hhw:hi≤w.1.size) :
  BdR w' base lo hi v' (m+1) (updF y m o) (updF A m ad') (updF C m cap'):=by
 have F:=FrP.of_grown hg
 have np:∀ q,q<hi→¬v.ownBlock=some q:=fun q hq e=>by have:=hv q e;omega
 refine ⟨⟨appF c (m*7) [.string o.kind,.string o.name,.int .i64 o.ver,.int .i64 o.born,.string o.text,.bool o.ending,.slice ad' o.hn cap'],?_,fun i hi'=>?_⟩,fun i hi'=>?_⟩
 ·rw [rowCells_append] at ho
  have e:m*7+([.string o.kind,.string o.name,.int .i64 o.ver,.int .i64 o.born,.string o.text,.bool o.ending,.slice ad' o.hn cap']:List Value).length=(m+1)*7:=by show m*7+7=_;omega
  rw [e] at ho
  exact ho
 ·by_cases e:i=m
  ·subst e
   rw [updF_same,updF_same,updF_same]
   exact ⟨appF_zero _ _ _,appF_at _ _ _ 1,appF_at _ _ _ 2,appF_at _ _ _ 3,appF_at _ _ _ 4,appF_at _ _ _ 5,appF_at _ _ _ 6⟩
  ·rw [updF_ne _ _ e,updF_ne _ _ e,updF_ne _ _ e]
   exact apP155
 ·by_cases e:i=m
  ·subst e
   rw [updF_same,updF_same]
   exact hs.frP F hhw np
  ·rw [updF_ne _ _ e,updF_ne _ _ e]
   exact (h.hold i Za).frP F hhw np
theorem apP150 {P:Prop} (h:P:=by
  have BW2:=hid (BD1.out.grow Za (below_alloc w1 (.cells #[.string (x k).kind,.string (x k).name,.int .i64 (x k).ver,.int .i64 (x k).born,.string (x k).text,.bool (x k).ending,.slice ah (x k).hn ch] 118)))
  obtain ⟨cc2,hown2,hat2⟩:=BW2.out.row
  have HAT2:=hid hat2
  clear hat2
  go_wp2_with (at_builtin;go_must (refine wpList_append_own_at _ rfl _ _ 31 rfl (w.1.size+1) 118 i0 _ 7 96 Tryz.underlying31 hi0 hz0 hz1 hz2 rfl Zb _ (m) (rowCells ((m)*7) cc2) rfl hown2 ⟨w1.1.size,0,none⟩ 1 1 [.string (x k).kind,.string (x k).name,.int .i64 (x k).ver,.int .i64 (x k).born,.string (x k).text,.bool (x k).ending,.slice ah (x k).hn ch] rfl rfl (alloc_news w1 _ 118) Zbi Zs Za Zc ?_;intro v2 u2 hown2' hgrow2 hnil2 hwh2;clear hnil2 hwh2))
  have zu2:=hgrow2.size
  simp only [World.size_alloc] at zu2
  have BD2':=hid (BW2.out.app (cap':=ch) HAT2.out hown2' hgrow2 (fun q hq=>(hown2.lt q hq).1) ((HSX1.out).alloc Za _) Za Zc)
  have B2':Below (w.1.size+1) (w.alloc (.cells #[.int .i64 c.ver,.bool c.gone,.string c.ob.kind,.string c.ob.name,.int .i64 c.ob.ver,.int .i64 c.ob.born,.string c.ob.text,.bool c.ob.ending,.slice adc c.ob.hn capc] 120)) u2:=(b1.alloc Za _).trans ((FrP.of_grown hgrow2).below (fun q hq e=>by have:=(hown2.lt q e).1;omega) Zc)
  clear hown2 hown2' hgrow2
  go_roundw
  case rel=>exact ⟨k+1,_,_,Za,by go_num,by rw [STEP.out,E.out],B2',by rw [STEP.out,E.out];exact BD2'.out⟩
  case measure=>simp [intOf];omega):P:=h
theorem l2Put_any (n:Nat) (x:Nat→Ob) (ad:Option Addr) (cap:Nat) (c:Ch) (adc:Option Addr) (capc:Nat) (w:World) (lo hi:Nat) (hhi:hi≤w.1.size) (hl:(n:Int)≤1048576) (hc:ObjsIn w lo hi ad n x) (hcs:StrsIn w lo hi adc c.ob.hn c.ob.hs) :
  Calls Tryz.prog 77 #[.slice ad n cap,.agg #[.int .i64 c.ver,.bool c.gone,.string c.ob.kind,.string c.ob.name,.int .i64 c.ob.ver,.int .i64 c.ob.born,.string c.ob.text,.bool c.ob.ending,.slice adc c.ob.hn capc]] w fun e w'=>∃ v A C,e=.returned v∧BdR w' (w.1.size+1) lo hi v (putAll n x c.ob c.gone).m (putAll n x c.ob c.gone).y A C∧Below w.1.size w w':=by
 obtain ⟨i0,hi0,hz0,hz1,hz2⟩:=info_parts Tryz.info118
 have HC:=hid hc
 have HCS:=hid hcs
 clear hc hcs
 go_enter Tryz.func77,Tryz.ntmps77
 go_wp2
 have bd0:BdR ((w.alloc (.cells #[.int .i64 c.ver,.bool c.gone,.string c.ob.kind,.string c.ob.name,.int .i64 c.ob.ver,.int .i64 c.ob.born,.string c.ob.text,.bool c.ob.ending,.slice adc c.ob.hn capc] 120)).alloc (.cells #[] 118)) (w.1.size+1) lo hi (.slice (some ⟨w.1.size+1,0,none⟩) 0 0) 0 (fun _=>c.ob) (fun _=>none) (fun _=>0):=
  ⟨⟨fun _=>.int .i64 0,by simpa [rowCells] using World.ownsRow_made (base:=w.1.size+1) (e:=118) (size:=7) (w.alloc (.cells #[.int .i64 c.ver,.bool c.gone,.string c.ob.kind,.string c.ob.name,.int .i64 c.ob.ver,.int .i64 c.ob.born,.string c.ob.text,.bool c.ob.ending,.slice adc c.ob.hn capc] 120)) #[] 0 Zd Zbw rfl,fun i hi=>absurd hi (Nat.not_lt_zero _)⟩,fun i hi=>absurd hi (Nat.not_lt_zero _)⟩
 go_loopw [5,6,7] (fun o d i wr=>∃ (k:Nat) (A:Nat→Option Addr) (C:Nat→Nat),k≤n∧i=.int .i64 k∧d=.bool (putTo x c.ob c.gone k).done∧Below (w.1.size+1) (w.alloc (.cells #[.int .i64 c.ver,.bool c.gone,.string c.ob.kind,.string c.ob.name,.int .i64 c.ob.ver,.int .i64 c.ob.born,.string c.ob.text,.bool c.ob.ending,.slice adc c.ob.hn capc] 120)) wr∧BdR wr (w.1.size+1) lo hi o (putTo x c.ob c.gone k).m (putTo x c.ob c.gone k).y A C) (fun _ _ i _=>n-(intOf i).toNat)
 case atStart=>exact ⟨0,_,_,Nat.zero_le _,rfl,rfl,by simpa using below_alloc (w.alloc (.cells #[.int .i64 c.ver,.bool c.gone,.string c.ob.kind,.string c.ob.name,.int .i64 c.ob.ver,.int .i64 c.ob.born,.string c.ob.text,.bool c.ob.ending,.slice adc c.ob.hn capc] 120)) (.cells #[] 118),bd0⟩
 case round=>
  clear bd0
  obtain ⟨k,A,C,hk,rfl,rfl,b0,bd⟩:=hrel
  have hBw:Below w.1.size w wr:=(below_alloc _ _).trans (b0.mono Za)
  have hsz:w.1.size+1≤wr.1.size:=by have:=b0.size;simpa using this
  have hle:=putTo_le x c.ob c.gone k
  have LE:=hid hle
  have o2:=box_cell (by simpa using b0) 2
  have o3:=box_cell (by simpa using b0) 3
  have o4:=box_cell (by simpa using b0) 4
  have o5:=box_cell (by simpa using b0) 5
  have o6:=box_cell (by simpa using b0) 6
  have o7:=box_cell (by simpa using b0) 7
  have o8:=box_cell (by simpa using b0) 8
  simp only [List.getElem?_toArray,List.getElem?_cons_succ,List.getElem?_cons_zero] at o2 o3 o4 o5 o6 o7 o8
  obtain ⟨S,hS⟩:∃ S,putTo x c.ob c.gone k=S:=⟨_,rfl⟩
  rw [hS] at bd LE ⊢
  have HS:=hid hS
  clear hS hle
  have BD:=hid bd
  clear bd
  by_cases hkn:k<n
  ·obtain ⟨b,off,ah,ch,rfl,hlo,hbh,hcx,hsx⟩:=HC.out k hkn
   obtain ⟨d0,d1,d2,d3,d4,d5,d6⟩:=hcx.below hBw Za
   have HX:=hid hcx
   have HSX:=hid hsx
   clear hcx hsx
   have x0:=subcell d0 Zk
   have x1:=subcell d1 Zk
   have x2:=subcell d2 Zk
   have x3:=subcell d3 Zk
   have x4:=subcell d4 Zk
   have x5:=subcell d5 Zk
   have x6:=subcell d6 Zk
   have y2:=subcell o2 Zh
   have y3:=subcell o3 Zh
   have y4:=subcell o4 Zh
   have y5:=subcell o5 Zh
   have y6:=subcell o6 Zh
   have y7:=subcell o7 Zh
   have y8:=subcell o8 Zh
   have hne:Nonempty (GW wr):=⟨⟨_,Below.refl _ _⟩⟩
   go_wp2
   refine wp_region_grow Zf Zf ?_
   repeat (go_big_quiet_step ((go_at_call 127;go_must (exact grow_of (key_any (x k) c.ob _ _ _ _ _)))))
   refine wpQuiet_nil ?_
   rintro w1 ⟨u,hu⟩
   have hw1:Below wr.1.size wr w1:=hu▸u.prop
   clear hu u hne x0 x1 x2 x3 x4 x5 x6 y2 y3 y4 y5 y6 y7 y8
   have z1:=hw1.size
   have b1:=b0.trans (hw1.mono Za)
   have hBw1:Below w.1.size w w1:=(below_alloc _ _).trans (b1.mono Za)
   have BD1:=hid (BD.out.grow Za hw1)
   have HSX1:=hid (HSX.out.below hBw1 hhi)
   have HCS1:=hid (HCS.out.below hBw1 hhi)
   obtain ⟨e0,e1,e2,e3,e4,e5,e6⟩:=HX.out.below hBw1 Za
   have p2:=(hw1.cell (p:=⟨w.1.size,2,none⟩) Zh).trans o2
   have p3:=(hw1.cell (p:=⟨w.1.size,3,none⟩) Zh).trans o3
   have p4:=(hw1.cell (p:=⟨w.1.size,4,none⟩) Zh).trans o4
   have p5:=(hw1.cell (p:=⟨w.1.size,5,none⟩) Zh).trans o5
   have p6:=(hw1.cell (p:=⟨w.1.size,6,none⟩) Zh).trans o6
   have p7:=(hw1.cell (p:=⟨w.1.size,7,none⟩) Zh).trans o7
   have p8:=(hw1.cell (p:=⟨w.1.size,8,none⟩) Zh).trans o8
   have STEP:=hid (show putTo x c.ob c.gone (k+1)=putStep c.ob (x k) S by show putStep c.ob (x k) (putTo x c.ob c.gone k)=_;rw [HS.out])
   clear d0 d1 d2 d3 d4 d5 d6 o2 o3 o4 o5 o6 o7 o8 hw1 BD
   obtain ⟨kk,hkk⟩:∃ kk,keyI (x k) c.ob=kk:=⟨_,rfl⟩
   rw [hkk]
   have HKK:=hid hkk
   clear hkk
   obtain ⟨m,y,dn⟩:=S
   dsimp only at BD1 LE STEP ⊢
   cases dn with
   | true=>
    have hm:m≤k+1:=by have:=LE.out;simp at this;omega
    by_cases h0:kk=0
    ·subst h0
     have E:=hid (show putStep c.ob (x k) ⟨m,y,true⟩=⟨m,y,true⟩ by unfold putStep;simp [HKK.out])
     go_wp2
     go_roundw
     case rel=>exact ⟨k+1,_,_,Za,by go_num,by rw [STEP.out,E.out],b1,by rw [STEP.out,E.out];exact BD1.out⟩
     case measure=>simp [intOf];omega
    ·have E:=hid (show putStep c.ob (x k) ⟨m,y,true⟩=⟨m+1,updF y m (x k),true⟩ by unfold putStep;simp [HKK.out,h0])
     exact apP150
   | false=>
    have hm:m≤k:=by have:=LE.out;simp at this;omega
    by_cases hneg:kk<0
    ·have E:=hid (show putStep c.ob (x k) ⟨m,y,false⟩=⟨m+1,updF y m (x k),false⟩ by unfold putStep;simp [HKK.out,hneg])
     have hnz:¬kk=0:=Za
     exact apP150
    ·by_cases h0:kk=0
     ·subst h0
      have E:=hid (show putStep c.ob (x k) ⟨m,y,false⟩=⟨m+1,updF y m c.ob,true⟩ by unfold putStep;simp [HKK.out])
      have BW2:=hid (BD1.out.grow Za (below_alloc w1 (.cells #[.string c.ob.kind,.string c.ob.name,.int .i64 c.ob.ver,.int .i64 c.ob.born,.string c.ob.text,.bool c.ob.ending,.slice adc c.ob.hn capc] 118)))
      obtain ⟨cc2,hown2,hat2⟩:=BW2.out.row
      have HAT2:=hid hat2
      clear hat2
      go_wp2_with (at_builtin;go_must (refine wpList_append_own_at _ rfl _ _ 31 rfl (w.1.size+1) 118 i0 _ 7 96 Tryz.underlying31 hi0 hz0 hz1 hz2 rfl Zb _ (m) (rowCells ((m)*7) cc2) rfl hown2 ⟨w1.1.size,0,none⟩ 1 1 [.string c.ob.kind,.string c.ob.name,.int .i64 c.ob.ver,.int .i64 c.ob.born,.string c.ob.text,.bool c.ob.ending,.slice adc c.ob.hn capc] rfl rfl (alloc_news w1 _ 118) Zbi Zs Za Zc ?_;intro v2 u2 hown2' hgrow2 hnil2 hwh2;clear hnil2 hwh2))
      have zu2:=hgrow2.size
      simp only [World.size_alloc] at zu2
      have BD2':=hid (BW2.out.app (cap':=capc) HAT2.out hown2' hgrow2 (fun q hq=>(hown2.lt q hq).1) ((HCS1.out).alloc Za _) Za Zc)
      have B2':Below (w.1.size+1) (w.alloc (.cells #[.int .i64 c.ver,.bool c.gone,.string c.ob.kind,.string c.ob.name,.int .i64 c.ob.ver,.int .i64 c.ob.born,.string c.ob.text,.bool c.ob.ending,.slice adc c.ob.hn capc] 120)) u2:=(b1.alloc Za _).trans ((FrP.of_grown hgrow2).below (fun q hq e=>by have:=(hown2.lt q e).1;omega) Zc)
      clear hown2 hown2' hgrow2
      go_roundw
      case rel=>exact ⟨k+1,_,_,Za,by go_num,by rw [STEP.out,E.out],B2',by rw [STEP.out,E.out];exact BD2'.out⟩
      case measure=>simp [intOf];omega
     ·have E:=hid (show putStep c.ob (x k) ⟨m,y,false⟩=⟨m+1+1,updF (updF y m c.ob) (m+1) (x k),true⟩ by unfold putStep;simp [HKK.out,hneg,h0])
      have BW2:=hid (BD1.out.grow Za (below_alloc w1 (.cells #[.string c.ob.kind,.string c.ob.name,.int .i64 c.ob.ver,.int .i64 c.ob.born,.string c.ob.text,.bool c.ob.ending,.slice adc c.ob.hn capc] 118)))
      obtain ⟨cc2,hown2,hat2⟩:=BW2.out.row
      have HAT2:=hid hat2
      clear hat2
      go_upto_region 10 with (at_builtin;go_must (refine wpList_append_own_at _ rfl _ _ 31 rfl (w.1.size+1) 118 i0 _ 7 96 Tryz.underlying31 hi0 hz0 hz1 hz2 rfl Zb _ (m) (rowCells ((m)*7) cc2) rfl hown2 ⟨w1.1.size,0,none⟩ 1 1 [.string c.ob.kind,.string c.ob.name,.int .i64 c.ob.ver,.int .i64 c.ob.born,.string c.ob.text,.bool c.ob.ending,.slice adc c.ob.hn capc] rfl rfl (alloc_news w1 _ 118) Zbi Zs Za Zc ?_;intro v2 u2 hown2' hgrow2 hnil2 hwh2;clear hnil2 hwh2))
      have zu2:=hgrow2.size
      simp only [World.size_alloc] at zu2
      have BD2':=hid (BW2.out.app (cap':=capc) HAT2.out hown2' hgrow2 (fun q hq=>(hown2.lt q hq).1) ((HCS1.out).alloc Za _) Za Zc)
      have B2':Below (w.1.size+1) (w.alloc (.cells #[.int .i64 c.ver,.bool c.gone,.string c.ob.kind,.string c.ob.name,.int .i64 c.ob.ver,.int .i64 c.ob.born,.string c.ob.text,.bool c.ob.ending,.slice adc c.ob.hn capc] 120)) u2:=(b1.alloc Za _).trans ((FrP.of_grown hgrow2).below (fun q hq e=>by have:=(hown2.lt q e).1;omega) Zc)
      clear hown2 hown2' hgrow2
      clear e0 e1 e2 e3 e4 e5 e6 p2 p3 p4 p5 p6 p7 p8
      have hBw2:Below w.1.size w u2:=(below_alloc _ _).trans (B2'.mono Za)
      obtain ⟨e0,e1,e2,e3,e4,e5,e6⟩:=HX.out.below hBw2 Za
      have HSX2:=hid (HSX.out.below hBw2 hhi)
      have BW3:=hid (BD2'.out.grow Za (below_alloc u2 (.cells #[.string (x k).kind,.string (x k).name,.int .i64 (x k).ver,.int .i64 (x k).born,.string (x k).text,.bool (x k).ending,.slice ah (x k).hn ch] 118)))
      obtain ⟨cc3,hown3,hat3⟩:=BW3.out.row
      have HAT3:=hid hat3
      clear hat3
      go_wp2_with (at_builtin;go_must (refine wpList_append_own_at _ rfl _ _ 31 rfl (w.1.size+1) 118 i0 _ 7 96 Tryz.underlying31 hi0 hz0 hz1 hz2 rfl Zb _ (m+1) (rowCells ((m+1)*7) cc3) rfl hown3 ⟨u2.1.size,0,none⟩ 1 1 [.string (x k).kind,.string (x k).name,.int .i64 (x k).ver,.int .i64 (x k).born,.string (x k).text,.bool (x k).ending,.slice ah (x k).hn ch] rfl rfl (alloc_news u2 _ 118) Zbi Zs Za Zc ?_;intro v3 u3 hown3' hgrow3 hnil3 hwh3;clear hnil3 hwh3))
      have zu3:=hgrow3.size
      simp only [World.size_alloc] at zu3
      have BD3':=hid (BW3.out.app (cap':=ch) HAT3.out hown3' hgrow3 (fun q hq=>(hown3.lt q hq).1) ((HSX2.out).alloc Za _) Za Zc)
      have B3':Below (w.1.size+1) (w.alloc (.cells #[.int .i64 c.ver,.bool c.gone,.string c.ob.kind,.string c.ob.name,.int .i64 c.ob.ver,.int .i64 c.ob.born,.string c.ob.text,.bool c.ob.ending,.slice adc c.ob.hn capc] 120)) u3:=(B2'.alloc Za _).trans ((FrP.of_grown hgrow3).below (fun q hq e=>by have:=(hown3.lt q e).1;omega) Zc)
      clear hown3 hown3' hgrow3
      go_roundw
      case rel=>exact ⟨k+1,_,_,Za,by go_num,by rw [STEP.out,E.out],B3',by rw [STEP.out,E.out];exact BD3'.out⟩
      case measure=>simp [intOf];omega
  ·have hke:k=n:=Za
   subst hke
   obtain ⟨m,y,dn⟩:=S
   dsimp only at BD LE ⊢
   have hBw:Below w.1.size w wr:=(below_alloc _ _).trans (b0.mono Za)
   have HCSr:=hid (HCS.out.below hBw hhi)
   have HSE:=hid (show putAll k x c.ob c.gone=putEnd c.ob ⟨m,y,dn⟩ by unfold putAll;rw [HS.out])
   cases dn with
   | true=>
    have E:=hid (show putEnd c.ob ⟨m,y,true⟩=⟨m,y,true⟩ from rfl)
    go_wp2
    go_ret
    exact ⟨_,rfl,⟨A,C,by rw [HSE.out,E.out];exact BD.out⟩,hBw⟩
   | false=>
    have hm:m≤k:=by have:=LE.out;simp at this;omega
    have E:=hid (show putEnd c.ob ⟨m,y,false⟩=⟨m+1,updF y m c.ob,true⟩ from rfl)
    have BW2:=hid (BD.out.grow Za (below_alloc wr (.cells #[.string c.ob.kind,.string c.ob.name,.int .i64 c.ob.ver,.int .i64 c.ob.born,.string c.ob.text,.bool c.ob.ending,.slice adc c.ob.hn capc] 118)))
    obtain ⟨cc2,hown2,hat2⟩:=BW2.out.row
    have HAT2:=hid hat2
    clear hat2
    go_wp2_with (at_builtin;go_must (refine wpList_append_own_at _ rfl _ _ 31 rfl (w.1.size+1) 118 i0 _ 7 96 Tryz.underlying31 hi0 hz0 hz1 hz2 rfl Zb _ (m) (rowCells ((m)*7) cc2) rfl hown2 ⟨wr.1.size,0,none⟩ 1 1 [.string c.ob.kind,.string c.ob.name,.int .i64 c.ob.ver,.int .i64 c.ob.born,.string c.ob.text,.bool c.ob.ending,.slice adc c.ob.hn capc] rfl rfl (alloc_news wr _ 118) Zbi Zs Za Zc ?_;intro v2 u2 hown2' hgrow2 hnil2 hwh2;clear hnil2 hwh2))
    have zu2:=hgrow2.size
    simp only [World.size_alloc] at zu2
    have BD2':=hid (BW2.out.app (cap':=capc) HAT2.out hown2' hgrow2 (fun q hq=>(hown2.lt q hq).1) ((HCSr.out).alloc Za _) Za Zc)
    have B2':Below (w.1.size+1) (w.alloc (.cells #[.int .i64 c.ver,.bool c.gone,.string c.ob.kind,.string c.ob.name,.int .i64 c.ob.ver,.int .i64 c.ob.born,.string c.ob.text,.bool c.ob.ending,.slice adc c.ob.hn capc] 120)) u2:=(b0.alloc Za _).trans ((FrP.of_grown hgrow2).below (fun q hq e=>by have:=(hown2.lt q e).1;omega) Zc)
    clear hown2 hown2' hgrow2
    go_ret
    exact ⟨_,_,_,rfl,by rw [HSE.out,E.out];exact BD2'.out,(below_alloc _ _).trans (B2'.mono Za)⟩
end Go.Proofs.YtllmmkchokkaaaaGreatDoor
namespace Go.Proofs.YtllmmkchokkaaaaGreatDoor
open Go.RowKit
theorem own_shape {w:World} {base e z n:Nat} {v:Value} {c:Nat→Value} (h:w.ownsRow base e z v n (rowCells (n*z) c)) (hn:0<n):∃ g cap,v=.slice (some ⟨g,0,none⟩) n cap∧base≤g∧RowF w g (n*z) c:=by
 rcases h.2 with ⟨rfl,h0⟩|⟨g,cap,cur,rfl,h1,_⟩
 ·omega
 ·exact ⟨g,cap,rfl,h1,row_of_own h⟩
theorem apP152 {P:Prop} (h:P:=by
  exact ⟨(r.cell _ Za).trans (congrArg some a0),(r.cell _ Za).trans (congrArg some a1),(r.cell _ Za).trans (congrArg some a2),(r.cell _ Za).trans (congrArg some a3),(r.cell _ Za).trans (congrArg some a4),(r.cell _ Za).trans (congrArg some a5),(r.cell _ Za).trans (congrArg some a6)⟩):P:=h
theorem ObsAt.isIn {w:World} {ad:Option Addr} {g n:Nat} {x:Nat→Ob} {A:Nat→Option Addr} {C hb:Nat→Nat} (h:ObsAt w ad g n x A C hb) {lo:Nat} (hlo:∀ q,blkH g n (fun i=>(x i).hn) hb q→lo≤q):ObjsIn w lo w.1.size ad n x:=fun i hi=>by
 obtain ⟨c,r,e⟩:=h.row Za
 obtain ⟨a0,a1,a2,a3,a4,a5,a6⟩:=e i hi
 refine ⟨g,0,A i,C i,h.addr Za,hlo g (Or.inl ⟨Za,rfl⟩),r.lt,?_,fun j hj=>?_⟩
 ·rw [Nat.zero_add]
  exact apP152
 ·obtain ⟨b,off,e1,e2,e3,e4,_⟩:=h.hold i hi j hj
  have hn0:(x i).hn≠0:=Za
  have e5:b=hb i:=Za
  exact ⟨b,off,e1,by rw [e5];exact hlo _ (Or.inr ⟨i,hi,hn0,rfl⟩),by rw [e5];exact h.hlt i hi hn0,e4⟩
theorem ChsAt.isIn {w:World} {ad:Option Addr} {g n:Nat} {x:Nat→Ch} {A:Nat→Option Addr} {C hb:Nat→Nat} (h:ChsAt w ad g n x A C hb) {lo:Nat} (hlo:∀ q,blkH g n (fun i=>(x i).ob.hn) hb q→lo≤q):ChgsIn w lo w.1.size ad n x:=fun i hi=>by
 obtain ⟨c,r,e⟩:=h.row Za
 obtain ⟨a0,a1,a2,a3,a4,a5,a6,a7,a8⟩:=e i hi
 refine ⟨g,0,A i,C i,h.addr Za,hlo g (Or.inl ⟨Za,rfl⟩),r.lt,?_,fun j hj=>?_⟩
 ·rw [Nat.zero_add]
  exact ⟨(r.cell _ Za).trans (congrArg some a0),(r.cell _ Za).trans (congrArg some a1),(r.cell _ Za).trans (congrArg some a2),(r.cell _ Za).trans (congrArg some a3),(r.cell _ Za).trans (congrArg some a4),(r.cell _ Za).trans (congrArg some a5),(r.cell _ Za).trans (congrArg some a6),(r.cell _ Za).trans (congrArg some a7),(r.cell _ Za).trans (congrArg some a8)⟩
 ·obtain ⟨b,off,e1,e2,e3,e4,_⟩:=h.hold i hi j hj
  have hn0:(x i).ob.hn≠0:=Za
  have e5:b=hb i:=Za
  exact ⟨b,off,e1,by rw [e5];exact hlo _ (Or.inr ⟨i,hi,hn0,rfl⟩),by rw [e5];exact h.hlt i hi hn0,e4⟩
theorem TisAt.isIn {w:World} {ad:Option Addr} {g n:Nat} {x:Nat→Ti} (h:TisAt w ad g n x) {lo:Nat} (hlo:0<n→lo≤g):TicsIn w lo w.1.size ad n x:=fun i hi=>by
 obtain ⟨c,r,e⟩:=h.row Za
 obtain ⟨a0,a1,a2,a3,a4⟩:=e i hi
 refine ⟨g,0,h.addr Za,hlo Za,r.lt,?_⟩
 rw [Nat.zero_add]
 exact ⟨(r.cell _ Za).trans (congrArg some a0),(r.cell _ Za).trans (congrArg some a1),(r.cell _ Za).trans (congrArg some a2),(r.cell _ Za).trans (congrArg some a3),(r.cell _ Za).trans (congrArg some a4)⟩
theorem BkAt.isIn {w:World} {x:Bk} {p:Pl} (h:BkAt w x p) {lo:Nat} (hlo:∀ q,blkB p x q→lo≤q):BkIn w lo w.1.size x p.a1 p.a2 p.a3:=
 ⟨h.o.isIn (fun q hq=>hlo q (Or.inl hq)),h.h.isIn (fun q hq=>hlo q (Or.inr (Or.inl hq))),h.t.isIn (fun h0=>hlo _ (Or.inr (Or.inr ⟨h0,rfl⟩)))⟩
theorem oper_append_own {P:Program} {o:Oper} {a:Act} {w:World} {K:Act→World→Prop} {Q:Exit→Act→World→Prop}
  (s x:Operand) (t:TypeId) (hop:o.op=Op.call { callee:=Callee.builtin Builtin.append,args:=#[s,x],argTypes:=#[t,t] })
  (base:Nat) (e:TypeId) (i:TypeInfo) (z:Value) (size bytes:Nat) (ht:P.underlying t=some (.slice e)) (hi:P.info? e=some i) (hz:i.zero=some z)
  (hsize:i.size=size) (hby:i.bytes=bytes) (hzs:z.cells.size=size) (hsz:0<size)
  (v:Value) (n:Nat) (xs:List Value) (hs:a.eval s=v) (hown:w.ownsRow base e size v n xs)
  (ad:Addr) (m c:Nat) (news:List Value) (hx:a.eval x=.slice (some ad) m c) (hl:news.length=m*size) (hnews:∀ j u,news[j]? = some u→w.cell? (ad.add j)=some u) (h1:∀ u ∈ news,u.oneCell'=true)
  (h63:n+m≤maxLen) (hbytes:(n+m)*bytes≤140737488355328) (hbase:base≤w.1.size)
  (hK:∀ v' w',w'.ownsRow base e size v' (n+m) (xs ++ news)→w.grownBy w' v.ownBlock→K (a.put o.dst v') w'):o.wp P a w K Q:=by
 obtain ⟨v',w',hr,h2,h3,h4,h5⟩:=run_append_own_at (P:=P) w base t o.type e i z size bytes ht hi hz hsize hby hzs hsz v n xs hown ad m c news hl hnews h1 h63 hbytes hbase
 unfold Oper.wp execOp
 simp only [hop,resolve,invoke,builtin,Sem.run_bind,Sem.run_pure,Result.andThen_ok,List.map_toArray,List.map_cons,List.map_nil,hs,hx,hr]
 exact hK v' w' h2 h3
theorem oper_append_zero {P:Program} {o:Oper} {a:Act} {w:World} {K:Act→World→Prop} {Q:Exit→Act→World→Prop}
  (s x:Operand) (t:TypeId) (ho:o.op=Op.call { callee:=Callee.builtin Builtin.append,args:=#[s,x],argTypes:=#[t,t] })
  (e:TypeId) (i:TypeInfo) (ht:P.underlying t=some (.slice e)) (hi:P.info? e=some i)
  (b off sLen sCap:Nat) (hle:sLen≤sCap) (hs:a.eval s=.slice (some ⟨b,off,none⟩) sLen sCap) (ad:Option Addr) (c:Nat) (hx:a.eval x=.slice ad 0 c)
  (h:K (a.put o.dst (.slice (some ⟨b,off,none⟩) sLen sCap)) w):o.wp P a w K Q:=by
 have hsrc:Src P i.size t (.slice ad 0 c) 0 [] w:=by
  cases ad with
  | none=>exact Src.ofNil w ht c
  | some a0=>exact Src.ofSlice w ht a0 0 c [] Zd (fun j u hj=>by simp at hj) (fun u hu=>by cases hu)
 have hrun:=run_append_room_src (P:=P) w t t o.type e i ht hi b off sLen sCap _ 0 [] hsrc Za (fun j hj=>by simp at hj) (fun j hj=>by simp at hj)
 simp only [Nat.add_zero,World.setCells] at hrun
 unfold Oper.wp
 simp [execOp,ho,resolve,invoke,builtin,hs,hx,hrun,Result.andThen]
 exact h
theorem row5 {w:World} {g:Nat} {c:Nat→Value} {v0 v1 v2 v3 v4:Value} (h:RowF w g 5 c):RowF (((((w.setCell ⟨g,0,none⟩ v0).setCell ⟨g,1,none⟩ v1).setCell ⟨g,2,none⟩ v2).setCell ⟨g,3,none⟩ v3).setCell ⟨g,4,none⟩ v4) g 5 (vec [v0,v1,v2,v3,v4]):=by
 have r:=((((h.set (o:=0) Za v0).set (o:=1) Za v1).set (o:=2) Za v2).set (o:=3) Za v3).set (o:=4) Za v4
 refine ⟨r.lt,r.free,fun j hj=>(r.cell j hj).trans (congrArg some ?_)⟩
 rcases (show j=0∨j=1∨j=2∨j=3∨j=4 by omega) with rfl|rfl|rfl|rfl|rfl<;>rfl
def CpInv (w0:World) (x:Bk) (a1 a2 a3:Option Addr) (c1 c2 c3:Nat) (l:Array Bool) (a:Act) (w:World):Prop:=
 ∃ (t3 t4 t5 t6 t7 t8 t9 t10 t11 t12 t13 t14 t15 t16 t17:Value) (b1:Option Addr) (d1 g1:Nat) (A1:Nat→Option Addr) (C1 h1:Nat→Nat) (b2:Option Addr) (d2 g2:Nat) (A2:Nat→Option Addr) (C2 h2:Nat→Nat) (g0:Nat) (b3:Option Addr) (d3 g3:Nat),a=⟨#[.agg #[.int .i64 x.now,.int .i64 x.floor,.slice a1 x.on c1,.slice a2 x.hn c2,.slice a3 x.tn c3],.pointer (some ⟨w0.1.size,0,none⟩),.pointer (some ⟨w0.1.size+1,0,none⟩),t3,t4,t5,t6,t7,t8,t9,t10,t11,t12,t13,t14,t15,t16,t17],[]⟩∧l.size=16∧Below w0.1.size w0 w∧w0.1.size+2≤w.1.size∧x.hn≤d2∧RowF w w0.1.size 5 (vec [.int .i64 x.now,.int .i64 x.floor,.slice a1 x.on c1,.slice a2 x.hn c2,.slice a3 x.tn c3]) ∧
  (l.getD 0 false=true→t3=.pointer (some ⟨w0.1.size,0,none⟩))∧(l.getD 1 false=true→t4=.int .i64 x.now)∧(l.getD 2 false=true→t5=.pointer (some ⟨w0.1.size,1,none⟩))∧(l.getD 3 false=true→t6=.int .i64 x.floor)∧(l.getD 4 false=true→t7=.pointer (some ⟨w0.1.size,2,none⟩))∧(l.getD 5 false=true→t8=.slice a1 x.on c1)∧(l.getD 6 false=true→t9=.slice b1 x.on d1∧ObsAt w b1 g1 x.on x.os A1 C1 h1∧∀ q,blkH g1 x.on (fun i=>(x.os i).hn) h1 q→w0.1.size+2≤q)∧(l.getD 7 false=true→t10=.pointer (some ⟨w0.1.size,3,none⟩))∧(l.getD 8 false=true→t11=.slice a2 x.hn c2)∧(l.getD 9 false=true→t12=.slice b2 x.hn d2∧ChsAt w b2 g2 x.hn x.hs A2 C2 h2∧∀ q,blkH g2 x.hn (fun i=>(x.hs i).ob.hn) h2 q→w0.1.size+2≤q)∧(l.getD 10 false=true→t13=.slice (some ⟨g0,0,none⟩) 0 0∧w0.1.size+2≤g0∧g0<w.1.size∧(l.getD 13 false=false→w.ownsRow (w0.1.size+2) 130 5 (.slice (some ⟨g0,0,none⟩) 0 0) 0 [])∧(l.getD 6 false=true→¬blkH g1 x.on (fun i=>(x.os i).hn) h1 g0)∧(l.getD 9 false=true→¬blkH g2 x.hn (fun i=>(x.hs i).ob.hn) h2 g0))∧(l.getD 11 false=true→t14=.pointer (some ⟨w0.1.size,4,none⟩))∧(l.getD 12 false=true→t15=.slice a3 x.tn c3)∧(l.getD 13 false=true→t16=.slice b3 x.tn d3∧TisAt w b3 g3 x.tn x.ts∧(0<x.tn→w0.1.size+2≤g3))∧(l.getD 14 false=true→t17=.agg #[.int .i64 x.now,.int .i64 x.floor,.slice b1 x.on d1,.slice b2 x.hn d2,.slice b3 x.tn d3])∧(l.getD 15 false=false→RowF w (w0.1.size+1) 5 (vec [.int .i64 0,.int .i64 0,.slice none 0 0,.slice none 0 0,.slice none 0 0]))∧(l.getD 15 false=true→RowF w (w0.1.size+1) 5 (vec [.int .i64 x.now,.int .i64 x.floor,.slice b1 x.on d1,.slice b2 x.hn d2,.slice b3 x.tn d3]))∧(l.getD 14 false=true→l.getD 6 false=true∧l.getD 9 false=true∧l.getD 13 false=true)∧(l.getD 15 false=true→l.getD 14 false=true)
theorem l1Copy_any (x:Bk) (a1 a2 a3:Option Addr) (c1 c2 c3:Nat) (w:World) (lo hi:Nat) (hhi:hi≤w.1.size) (l1:(x.on:Int)≤1048576) (l2:(x.hn:Int)≤1048576) (l3:(x.tn:Int)≤1048576) (hf:BkFit x) (hc:BkIn w lo hi x a1 a2 a3) :
  Calls Tryz.prog 36 #[.agg #[.int .i64 x.now,.int .i64 x.floor,.slice a1 x.on c1,.slice a2 x.hn c2,.slice a3 x.tn c3]] w fun e w'=>∃ (b1 b2 b3:Option Addr) (d1 d2 d3:Nat),e=.returned (.agg #[.int .i64 x.now,.int .i64 x.floor,.slice b1 x.on d1,.slice b2 x.hn d2,.slice b3 x.tn d3])∧BkIn w' w.1.size w'.1.size x b1 b2 b3∧x.hn≤d2∧Below w.1.size w w':=by
 obtain ⟨f1',f2',f3',f4',f5',f6'⟩:=hf
 obtain ⟨i0,hi0,hz0,hz1,hz2⟩:=info_parts Tryz.info130
 obtain ⟨ct,st,att⟩:=hc.t.src
 have STT:=hid st
 have AT:=hid att
 have HC:=hid hc
 have F4:=hid f4'
 have F5:=hid f5'
 have I1:=hid hi0
 have I2:=hid hz0
 have I3:=hid hz1
 have I4:=hid hz2
 clear st att hc f4' f5' f6' hi0 hz0 hz1 hz2
 go_enter Tryz.func36,Tryz.ntmps36
 go_wp2
 refine wp_region_inv Zf (CpInv w x a1 a2 a3 c1 c2 c3) ?_ ?_ ?_ ?_
 ·unfold CpInv
  have rb:RowF ((w.alloc (.cells #[.int .i64 x.now,.int .i64 x.floor,.slice a1 x.on c1,.slice a2 x.hn c2,.slice a3 x.tn c3] 35)).alloc (.cells #[.int .i64 0,.int .i64 0,.slice none 0 0,.slice none 0 0,.slice none 0 0] 35)).drew w.1.size 5 (vec [.int .i64 x.now,.int .i64 x.floor,.slice a1 x.on c1,.slice a2 x.hn c2,.slice a3 x.tn c3]):=(RowF.new (w:=w) (l:=[.int .i64 x.now,.int .i64 x.floor,.slice a1 x.on c1,.slice a2 x.hn c2,.slice a3 x.tn c3]) (t:=35) (by have h:=below_alloc (w.alloc (.cells #[.int .i64 x.now,.int .i64 x.floor,.slice a1 x.on c1,.slice a2 x.hn c2,.slice a3 x.tn c3] 35)) (.cells #[.int .i64 0,.int .i64 0,.slice none 0 0,.slice none 0 0,.slice none 0 0] 35);simpa using h)).below (B:=w.1.size+2) ((Below.refl _ _).drew) Za
  have rz:RowF ((w.alloc (.cells #[.int .i64 x.now,.int .i64 x.floor,.slice a1 x.on c1,.slice a2 x.hn c2,.slice a3 x.tn c3] 35)).alloc (.cells #[.int .i64 0,.int .i64 0,.slice none 0 0,.slice none 0 0,.slice none 0 0] 35)).drew (w.1.size+1) 5 (vec [.int .i64 0,.int .i64 0,.slice none 0 0,.slice none 0 0,.slice none 0 0]):=by
   have h:=(RowF.new (w:=w.alloc (.cells #[.int .i64 x.now,.int .i64 x.floor,.slice a1 x.on c1,.slice a2 x.hn c2,.slice a3 x.tn c3] 35)) (l:=[.int .i64 0,.int .i64 0,.slice none 0 0,.slice none 0 0,.slice none 0 0]) (t:=35) Zbv).below (B:=w.1.size+2) ((Below.refl _ _).drew) Zd
   rw [World.size_alloc] at h
   exact h
  refine ⟨_,_,_,_,_,_,_,_,_,_,_,_,_,_,_,none,0,0,fun _=>none,fun _=>0,fun _=>0,none,x.hn,0,fun _=>none,fun _=>0,fun _=>0,0,none,0,0,rfl,Zd,(((Below.refl _ _).alloc Zbt _).alloc Zd _).drew,Zd,Nat.le_refl _,rb,?_⟩
  simp
  exact rz
 ·intro l a w' hI
  obtain ⟨t3,t4,t5,t6,t7,t8,t9,t10,t11,t12,t13,t14,t15,t16,t17,b1,d1,g1,A1,C1,h1,b2,d2,g2,A2,C2,h2,g0,b3,d3,g3,rfl,hls,_⟩:=hI
  exact hls
 ·intro l a w' hI hr
  obtain ⟨t3,t4,t5,t6,t7,t8,t9,t10,t11,t12,t13,t14,t15,t16,t17,b1,d1,g1,A1,C1,h1,b2,d2,g2,A2,C2,h2,g0,b3,d3,g3,rfl,hls,hB,hz,hcap,rb,f0,f1,f2,f3,f4,f5,f6,f7,f8,f9,f10,f11,f12,f13,f14,f15,f16,f17,f18⟩:=hI
  have AL:=all_listed Zf (by rw [hls];rfl) hr
  have R:=f16 (AL 15 Zb)
  have O:=hid (f6 (AL 6 Zb)).2
  have H:=hid (f9 (AL 9 Zb)).2
  have T:=hid (f13 (AL 13 Zb)).2
  obtain ⟨y0,y1,y2,y3,y4⟩:=bk_vec R
  clear f0 f1 f2 f3 f4 f5 f6 f7 f8 f9 f10 f11 f12 f13 f14 f15 f16 f17 f18 rb R AL hr hls
  go_wp2
  refine bodyPost_ret (v:=.agg #[.int .i64 x.now,.int .i64 x.floor,.slice b1 x.on d1,.slice b2 x.hn d2,.slice b3 x.tn d3]) (by simp [results,Tryz.results36,go_sem,y0,y1,y2,y3,y4]) rfl ⟨b1,b2,b3,d1,d2,d3,rfl,⟨O.out.1.isIn (fun q hq=>by have:=O.out.2 q hq;omega),H.out.1.isIn (fun q hq=>by have:=H.out.2 q hq;omega),T.out.1.isIn (fun h0=>by have:=T.out.2 h0;omega)⟩,hcap,hB⟩
 ·intro l a w' i hI hr
  obtain ⟨t3,t4,t5,t6,t7,t8,t9,t10,t11,t12,t13,t14,t15,t16,t17,b1,d1,g1,A1,C1,h1,b2,d2,g2,A2,C2,h2,g0,b3,d3,g3,rfl,hls,hB,hz,hcap,rb,f0,f1,f2,f3,f4,f5,f6,f7,f8,f9,f10,f11,f12,f13,f14,f15,f16,f17,f18⟩:=hI
  obtain ⟨hu,o,ho,hdep⟩:=mem_ready.1 hr
  have hi16:i<16:=by
   rcases Nat.lt_or_ge i 16 with h|h
   ·exact h
   ·rw [Array.getElem?_eq_none (by simpa using h)] at ho
    cases ho
  have kp:∀ j,¬j=i→(l.setIfInBounds i true).getD j false=l.getD j false:=fun j hj=>by rw [getD_set Za,if_neg hj]
  have ki:(l.setIfInBounds i true).getD i false=true:=by rw [getD_set Za,if_pos rfl]
  have hsz':(l.setIfInBounds i true).size=16:=by simp [hls]
  have hui:l.getD i false=false:=by simpa [Array.getD,hls,hi16] using hu
  have HRB:=hid rb
  obtain ⟨p0,p1,p2,p3,p4⟩:=bk_vec rb
  clear rb hr hu
  rcases (show i=0∨i=1∨i=2∨i=3∨i=4∨i=5∨i=6∨i=7∨i=8∨i=9∨i=10∨i=11∨i=12∨i=13∨i=14∨i=15 by omega) with rfl|rfl|rfl|rfl|rfl|rfl|rfl|rfl|rfl|rfl|rfl|rfl|rfl|rfl|rfl|rfl
  ·simp only [List.getElem?_toArray,List.getElem?_cons_zero,Option.some.injEq] at ho
   subst ho
   clear hdep
   refine wpOp_of rfl rfl ?_
   generalize hK:CpInv w x a1 a2 a3 c1 c2 c3 (l.setIfInBounds 0 true)=K
   go_simp
   rw [←hK]
   unfold CpInv
   exact ⟨_,t4,t5,t6,t7,t8,t9,t10,t11,t12,t13,t14,t15,t16,t17,b1,d1,g1,A1,C1,h1,b2,d2,g2,A2,C2,h2,g0,b3,d3,g3,rfl,hsz',hB,hz,hcap,HRB.out,(fun _=>rfl),Zt,Zu,Zv,Zw,Zx,Zae,Zy,Zz,Zaf,Zag,Zp,Zq,Zay,Zat,Zaz,Zba,Zad,Zai⟩
  ·simp only [List.getElem?_toArray,List.getElem?_cons_succ,List.getElem?_cons_zero,Option.some.injEq] at ho
   subst ho
   have q0:l.getD 0 false=true:=hdep ⟨0,.data⟩ Zd rfl
   clear hdep
   obtain rfl:=f0 q0
   refine wpOp_of rfl rfl ?_
   generalize hK:CpInv w x a1 a2 a3 c1 c2 c3 (l.setIfInBounds 1 true)=K
   go_simp
   rw [←hK]
   unfold CpInv
   exact ⟨_,_,t5,t6,t7,t8,t9,t10,t11,t12,t13,t14,t15,t16,t17,b1,d1,g1,A1,C1,h1,b2,d2,g2,A2,C2,h2,g0,b3,d3,g3,rfl,hsz',hB,hz,hcap,HRB.out,Zaa,(fun _=>rfl),Zu,Zv,Zw,Zx,Zae,Zy,Zz,Zaf,Zag,Zp,Zq,Zay,Zat,Zaz,Zba,Zad,Zai⟩
  ·simp only [List.getElem?_toArray,List.getElem?_cons_succ,List.getElem?_cons_zero,Option.some.injEq] at ho
   subst ho
   clear hdep
   refine wpOp_of rfl rfl ?_
   generalize hK:CpInv w x a1 a2 a3 c1 c2 c3 (l.setIfInBounds 2 true)=K
   go_simp
   rw [←hK]
   unfold CpInv
   exact ⟨t3,t4,_,t6,t7,t8,t9,t10,t11,t12,t13,t14,t15,t16,t17,b1,d1,g1,A1,C1,h1,b2,d2,g2,A2,C2,h2,g0,b3,d3,g3,rfl,hsz',hB,hz,hcap,HRB.out,Zaa,Zt,(fun _=>rfl),Zv,Zw,Zx,Zae,Zy,Zz,Zaf,Zag,Zp,Zq,Zay,Zat,Zaz,Zba,Zad,Zai⟩
  ·simp only [List.getElem?_toArray,List.getElem?_cons_succ,List.getElem?_cons_zero,Option.some.injEq] at ho
   subst ho
   have q2:l.getD 2 false=true:=hdep ⟨2,.data⟩ Zd rfl
   clear hdep
   obtain rfl:=f2 q2
   refine wpOp_of rfl rfl ?_
   generalize hK:CpInv w x a1 a2 a3 c1 c2 c3 (l.setIfInBounds 3 true)=K
   go_simp
   rw [←hK]
   unfold CpInv
   exact ⟨t3,t4,_,_,t7,t8,t9,t10,t11,t12,t13,t14,t15,t16,t17,b1,d1,g1,A1,C1,h1,b2,d2,g2,A2,C2,h2,g0,b3,d3,g3,rfl,hsz',hB,hz,hcap,HRB.out,Zaa,Zt,Zu,(fun _=>rfl),Zw,Zx,Zae,Zy,Zz,Zaf,Zag,Zp,Zq,Zay,Zat,Zaz,Zba,Zad,Zai⟩
  ·simp only [List.getElem?_toArray,List.getElem?_cons_succ,List.getElem?_cons_zero,Option.some.injEq] at ho
   subst ho
   clear hdep
   refine wpOp_of rfl rfl ?_
   generalize hK:CpInv w x a1 a2 a3 c1 c2 c3 (l.setIfInBounds 4 true)=K
   go_simp
   rw [←hK]
   unfold CpInv
   exact ⟨t3,t4,t5,t6,_,t8,t9,t10,t11,t12,t13,t14,t15,t16,t17,b1,d1,g1,A1,C1,h1,b2,d2,g2,A2,C2,h2,g0,b3,d3,g3,rfl,hsz',hB,hz,hcap,HRB.out,Zaa,Zt,Zu,Zv,(fun _=>rfl),Zx,Zae,Zy,Zz,Zaf,Zag,Zp,Zq,Zay,Zat,Zaz,Zba,Zad,Zai⟩
  ·simp only [List.getElem?_toArray,List.getElem?_cons_succ,List.getElem?_cons_zero,Option.some.injEq] at ho
   subst ho
   have q4:l.getD 4 false=true:=hdep ⟨4,.data⟩ Zd rfl
   clear hdep
   obtain rfl:=f4 q4
   refine wpOp_of rfl rfl ?_
   generalize hK:CpInv w x a1 a2 a3 c1 c2 c3 (l.setIfInBounds 5 true)=K
   go_simp
   rw [←hK]
   unfold CpInv
   exact ⟨t3,t4,t5,t6,_,_,t9,t10,t11,t12,t13,t14,t15,t16,t17,b1,d1,g1,A1,C1,h1,b2,d2,g2,A2,C2,h2,g0,b3,d3,g3,rfl,hsz',hB,hz,hcap,HRB.out,Zaa,Zt,Zu,Zv,Zw,(fun _=>rfl),Zae,Zy,Zz,Zaf,Zag,Zp,Zq,Zay,Zat,Zaz,Zba,Zad,Zai⟩
  ·simp only [List.getElem?_toArray,List.getElem?_cons_succ,List.getElem?_cons_zero,Option.some.injEq] at ho
   subst ho
   have q5:l.getD 5 false=true:=hdep ⟨5,.data⟩ Zd rfl
   clear hdep
   obtain rfl:=f5 q5
   refine wpOp_of rfl rfl ?_
   generalize hK:CpInv w x a1 a2 a3 c1 c2 c3 (l.setIfInBounds 6 true)=K
   go_simp
   go_at_call 78
   refine (specObs_any x.on x.os a1 c1 _ lo hi Za l1 F4.out (HC.out.o.below hB hhi)).mono ?_
   rintro e wa ⟨b1',d1',g1',A1',C1',h1',rfl,oa,qa,ba⟩
   have za:=ba.size
   rw [←hK]
   unfold CpInv
   exact ⟨t3,t4,t5,t6,t7,_,_,t10,t11,t12,t13,t14,t15,t16,t17,b1',d1',g1',A1',C1',h1',b2,d2,g2,A2,C2,h2,g0,b3,d3,g3,rfl,hsz',hB.trans (ba.mono Za),Za,hcap,HRB.out.below ba Za,Zaa,Zt,Zu,Zv,Zw,Zx,(fun _=>⟨rfl,oa,fun q hq=>by have:=qa q hq;omega⟩),Zy,Zz,(by rw [kp 9 Zb];intro h;exact ⟨(f9 h).1,(f9 h).2.1.grow ba,(f9 h).2.2⟩),(by rw [kp 10 Zb,kp 13 Zb,kp 9 Zb];intro h;obtain ⟨e1,e2,e3,e4,e5,e6⟩:=f10 h;exact ⟨e1,e2,Za,fun h13=>ownsRow_fr (e4 h13) (FrP.of_below (P:=fun _=>False) ba) (fun _ _ h=>h),fun _ hq=>(by have:=qa _ hq;omega),e6⟩),Zp,Zq,(by rw [kp 13 Zb];intro h;exact ⟨(f13 h).1,(f13 h).2.1.grow ba,(f13 h).2.2⟩),(by rw [kp 14 Zb];intro h;exact absurd (f17 h).1 (by rw [hui];decide)),(by rw [kp 15 Zb];intro h;exact (f15 h).below ba Za),(by rw [kp 15 Zb];intro h;exact absurd (f17 (f18 h)).1 (by rw [hui];decide)),(by rw [kp 14 Zb];intro h;exact absurd (f17 h).1 (by rw [hui];decide)),Zai⟩
  ·simp only [List.getElem?_toArray,List.getElem?_cons_succ,List.getElem?_cons_zero,Option.some.injEq] at ho
   subst ho
   clear hdep
   refine wpOp_of rfl rfl ?_
   generalize hK:CpInv w x a1 a2 a3 c1 c2 c3 (l.setIfInBounds 7 true)=K
   go_simp
   rw [←hK]
   unfold CpInv
   exact ⟨t3,t4,t5,t6,t7,t8,t9,_,t11,t12,t13,t14,t15,t16,t17,b1,d1,g1,A1,C1,h1,b2,d2,g2,A2,C2,h2,g0,b3,d3,g3,rfl,hsz',hB,hz,hcap,HRB.out,Zaa,Zt,Zu,Zv,Zw,Zx,Zae,(fun _=>rfl),Zz,Zaf,Zag,Zp,Zq,Zay,Zat,Zaz,Zba,Zad,Zai⟩
  ·simp only [List.getElem?_toArray,List.getElem?_cons_succ,List.getElem?_cons_zero,Option.some.injEq] at ho
   subst ho
   have q7:l.getD 7 false=true:=hdep ⟨7,.data⟩ Zd rfl
   clear hdep
   obtain rfl:=f7 q7
   refine wpOp_of rfl rfl ?_
   generalize hK:CpInv w x a1 a2 a3 c1 c2 c3 (l.setIfInBounds 8 true)=K
   go_simp
   rw [←hK]
   unfold CpInv
   exact ⟨t3,t4,t5,t6,t7,t8,t9,_,_,t12,t13,t14,t15,t16,t17,b1,d1,g1,A1,C1,h1,b2,d2,g2,A2,C2,h2,g0,b3,d3,g3,rfl,hsz',hB,hz,hcap,HRB.out,Zaa,Zt,Zu,Zv,Zw,Zx,Zae,Zy,(fun _=>rfl),Zaf,Zag,Zp,Zq,Zay,Zat,Zaz,Zba,Zad,Zai⟩
  ·simp only [List.getElem?_toArray,List.getElem?_cons_succ,List.getElem?_cons_zero,Option.some.injEq] at ho
   subst ho
   have q8:l.getD 8 false=true:=hdep ⟨8,.data⟩ Zd rfl
   have q6:l.getD 6 false=true:=hdep ⟨6,.chain⟩ Zd rfl
   clear hdep
   obtain rfl:=f8 q8
   refine wpOp_of rfl rfl ?_
   generalize hK:CpInv w x a1 a2 a3 c1 c2 c3 (l.setIfInBounds 9 true)=K
   clear q6
   go_simp
   go_at_call 79
   refine (specChs_any x.hn x.hs a2 c2 _ lo hi Za l2 F5.out (HC.out.h.below hB hhi)).mono ?_
   rintro e wa ⟨b1',d1',g1',A1',C1',h1',rfl,hcap',oa,qa,ba⟩
   have za:=ba.size
   rw [←hK]
   unfold CpInv
   exact ⟨t3,t4,t5,t6,t7,t8,t9,t10,_,_,t13,t14,t15,t16,t17,b1,d1,g1,A1,C1,h1,b1',d1',g1',A1',C1',h1',g0,b3,d3,g3,rfl,hsz',hB.trans (ba.mono Za),Za,hcap',HRB.out.below ba Za,Zaa,Zt,Zu,Zv,Zw,Zx,(by rw [kp 6 Zb];intro h;exact ⟨(f6 h).1,(f6 h).2.1.grow ba,(f6 h).2.2⟩),Zy,Zz,(fun _=>⟨rfl,oa,fun q hq=>by have:=qa q hq;omega⟩),(by rw [kp 10 Zb,kp 13 Zb,kp 6 Zb];intro h;obtain ⟨e1,e2,e3,e4,e5,e6⟩:=f10 h;exact ⟨e1,e2,Za,fun h13=>ownsRow_fr (e4 h13) (FrP.of_below (P:=fun _=>False) ba) (fun _ _ h=>h),e5,fun _ hq=>(by have:=qa _ hq;omega)⟩),Zp,Zq,(by rw [kp 13 Zb];intro h;exact ⟨(f13 h).1,(f13 h).2.1.grow ba,(f13 h).2.2⟩),(by rw [kp 14 Zb];intro h;exact absurd (f17 h).2.1 (by rw [hui];decide)),(by rw [kp 15 Zb];intro h;exact (f15 h).below ba Za),(by rw [kp 15 Zb];intro h;exact absurd (f17 (f18 h)).2.1 (by rw [hui];decide)),(by rw [kp 14 Zb];intro h;exact absurd (f17 h).2.1 (by rw [hui];decide)),Zai⟩
  ·simp only [List.getElem?_toArray,List.getElem?_cons_succ,List.getElem?_cons_zero,Option.some.injEq] at ho
   subst ho
   clear hdep
   refine wpOp_of rfl rfl ?_
   generalize hK:CpInv w x a1 a2 a3 c1 c2 c3 (l.setIfInBounds 10 true)=K
   go_simp
   rw [←hK]
   unfold CpInv
   exact ⟨t3,t4,t5,t6,t7,t8,t9,t10,t11,t12,_,t14,t15,t16,t17,b1,d1,g1,A1,C1,h1,b2,d2,g2,A2,C2,h2,w'.1.size,b3,d3,g3,rfl,hsz',hB.alloc Za _,Zc,hcap,HRB.out.below Zbu Za,Zaa,Zt,Zu,Zv,Zw,Zx,(by rw [kp 6 Zb];intro h;exact ⟨(f6 h).1,(f6 h).2.1.grow Zbu,(f6 h).2.2⟩),Zy,Zz,(by rw [kp 9 Zb];intro h;exact ⟨(f9 h).1,(f9 h).2.1.grow Zbu,(f9 h).2.2⟩),(fun _=>⟨rfl,Za,Zd,fun _=>World.ownsRow_made (base:=w.1.size+2) (e:=130) (size:=5) w' #[] 0 Za Zbw rfl,(by rw [kp 6 Zb];intro h hq;exact Nat.lt_irrefl _ ((f6 h).2.1.blt hq)),(by rw [kp 9 Zb];intro h hq;exact Nat.lt_irrefl _ ((f9 h).2.1.blt hq))⟩),Zp,Zq,(by rw [kp 13 Zb];intro h;exact ⟨(f13 h).1,(f13 h).2.1.grow Zbu,(f13 h).2.2⟩),Zat,(by rw [kp 15 Zb];intro h;exact (f15 h).below Zbu Za),(by rw [kp 15 Zb];intro h;exact (f16 h).below Zbu Za),Zad,Zai⟩
  ·simp only [List.getElem?_toArray,List.getElem?_cons_succ,List.getElem?_cons_zero,Option.some.injEq] at ho
   subst ho
   clear hdep
   refine wpOp_of rfl rfl ?_
   generalize hK:CpInv w x a1 a2 a3 c1 c2 c3 (l.setIfInBounds 11 true)=K
   go_simp
   rw [←hK]
   unfold CpInv
   exact ⟨t3,t4,t5,t6,t7,t8,t9,t10,t11,t12,t13,_,t15,t16,t17,b1,d1,g1,A1,C1,h1,b2,d2,g2,A2,C2,h2,g0,b3,d3,g3,rfl,hsz',hB,hz,hcap,HRB.out,Zaa,Zt,Zu,Zv,Zw,Zx,Zae,Zy,Zz,Zaf,Zag,(fun _=>rfl),Zq,Zay,Zat,Zaz,Zba,Zad,Zai⟩
  ·simp only [List.getElem?_toArray,List.getElem?_cons_succ,List.getElem?_cons_zero,Option.some.injEq] at ho
   subst ho
   have q11:l.getD 11 false=true:=hdep ⟨11,.data⟩ Zd rfl
   clear hdep
   obtain rfl:=f11 q11
   refine wpOp_of rfl rfl ?_
   generalize hK:CpInv w x a1 a2 a3 c1 c2 c3 (l.setIfInBounds 12 true)=K
   go_simp
   rw [←hK]
   unfold CpInv
   exact ⟨t3,t4,t5,t6,t7,t8,t9,t10,t11,t12,t13,_,_,t16,t17,b1,d1,g1,A1,C1,h1,b2,d2,g2,A2,C2,h2,g0,b3,d3,g3,rfl,hsz',hB,hz,hcap,HRB.out,Zaa,Zt,Zu,Zv,Zw,Zx,Zae,Zy,Zz,Zaf,Zag,Zp,(fun _=>rfl),Zay,Zat,Zaz,Zba,Zad,Zai⟩
  ·simp only [List.getElem?_toArray,List.getElem?_cons_succ,List.getElem?_cons_zero,Option.some.injEq] at ho
   subst ho
   have q10:l.getD 10 false=true:=hdep ⟨10,.data⟩ Zd rfl
   have q12:l.getD 12 false=true:=hdep ⟨12,.data⟩ Zd rfl
   have q9:l.getD 9 false=true:=hdep ⟨9,.chain⟩ Zd rfl
   clear hdep
   obtain ⟨rfl,e2,e3,e4,n6,n9⟩:=f10 q10
   obtain rfl:=f12 q12
   have hown:=e4 hui
   refine wpOp_of rfl rfl ?_
   generalize hK:CpInv w x a1 a2 a3 c1 c2 c3 (l.setIfInBounds 13 true)=K
   by_cases ht0:x.tn=0
   ·refine oper_append_zero (.tmp 13) (.tmp 15) 33 rfl 130 i0 Tryz.underlying33 I1.out g0 0 0 0 Zbt rfl a3 c3 (by rw [←ht0];rfl) ?_
    rw [←hK]
    unfold CpInv
    exact ⟨t3,t4,t5,t6,t7,t8,t9,t10,t11,t12,_,t14,_,_,t17,b1,d1,g1,A1,C1,h1,b2,d2,g2,A2,C2,h2,g0,some ⟨g0,0,none⟩,0,0,rfl,hsz',hB,hz,hcap,HRB.out,Zaa,Zt,Zu,Zv,Zw,Zx,(by rw [kp 6 Zb];intro h;exact ⟨(f6 h).1,(f6 h).2.1,(f6 h).2.2⟩),Zy,Zz,(by rw [kp 9 Zb];intro h;exact ⟨(f9 h).1,(f9 h).2.1,(f9 h).2.2⟩),(by rw [kp 10 Zb,kp 6 Zb,kp 9 Zb];intro _;exact ⟨rfl,e2,e3,fun h=>absurd (ki.symm.trans h) Zb,n6,n9⟩),Zp,Zq,(fun _=>⟨by rw [ht0],⟨fun h=>absurd h Za,fun h=>absurd h Za⟩,fun h=>absurd h Za⟩),Zbe,(by rw [kp 15 Zb];intro h;exact f15 h),(by rw [kp 15 Zb];intro h;exact absurd (f17 (f18 h)).2.2 (by rw [hui];decide)),Zbe,Zai⟩
   ·obtain ⟨tb,toff,ea,htl,htb,_⟩:=STT.out.at_ 0 Za
    refine oper_append_own (.tmp 13) (.tmp 15) 33 rfl (w.1.size+2) 130 i0 _ 5 56 Tryz.underlying33 I1.out I2.out I3.out I4.out rfl Zb _ 0 [] rfl hown ⟨tb,toff,none⟩ x.tn c3 (rowCells (x.tn*5) ct) (by rw [←ea];rfl) (by rw [rowCells_len]) (by intro j u hj;obtain ⟨h1,rfl⟩:=rowCells_get hj;obtain ⟨b',off',e',_,e3',e4'⟩:=STT.out.at_ j h1;rw [ea] at e';cases e';rw [show ((⟨tb,toff,none⟩:Addr).add j)=⟨tb,toff+j,none⟩ by simp [Addr.add],hB.cell (p:=⟨tb,toff+j,none⟩) (by show tb<_;omega)];exact e4') (by intro v hv;obtain ⟨i,hi,rfl⟩:=List.mem_map.1 hv;exact STT.out.one i (by simpa using hi)) Zs Za Za ?_
    intro v3 w3 ho3 hg3
    simp only [Nat.zero_add,List.nil_append] at ho3
    obtain ⟨g3',d3',rfl,hgb,r3⟩:=own_shape ho3 Za
    have T3:=hid r3
    have fw:FrP (fun q=>q=g0) w' w3:=(FrP.of_grown hg3).mono (fun q hq=>by have h:some g0=some q:=hq;injection h with h;exact h.symm)
    have z3:=fw.size
    rw [←hK]
    unfold CpInv
    exact ⟨t3,t4,t5,t6,t7,t8,t9,t10,t11,t12,_,t14,_,_,t17,b1,d1,g1,A1,C1,h1,b2,d2,g2,A2,C2,h2,g0,some ⟨g3',0,none⟩,d3',g3',rfl,hsz',hB.trans (fw.below (fun q hq e=>by omega) Za),Za,hcap,HRB.out.fr fw Za,Zaa,Zt,Zu,Zv,Zw,Zx,(by rw [kp 6 Zb];intro h;exact ⟨(f6 h).1,(f6 h).2.1.fr fw (fun k hk e=>n6 h (e▸hk)),(f6 h).2.2⟩),Zy,Zz,(by rw [kp 9 Zb];intro h;exact ⟨(f9 h).1,(f9 h).2.1.fr fw (fun k hk e=>n9 h (e▸hk)),(f9 h).2.2⟩),(by rw [kp 10 Zb,kp 6 Zb,kp 9 Zb];intro _;exact ⟨rfl,e2,Za,fun h=>absurd (ki.symm.trans h) Zb,n6,n9⟩),Zp,Zq,(fun _=>⟨rfl,⟨fun _=>rfl,fun _=>⟨ct,T3.out,AT.out⟩⟩,fun _=>hgb⟩),Zbe,(by rw [kp 15 Zb];intro h;exact (f15 h).fr fw Za),(by rw [kp 15 Zb];intro h;exact absurd (f17 (f18 h)).2.2 (by rw [hui];decide)),Zbe,Zai⟩
  ·simp only [List.getElem?_toArray,List.getElem?_cons_succ,List.getElem?_cons_zero,Option.some.injEq] at ho
   subst ho
   have q1:l.getD 1 false=true:=hdep ⟨1,.data⟩ Zd rfl
   have q3:l.getD 3 false=true:=hdep ⟨3,.data⟩ Zd rfl
   have q6:l.getD 6 false=true:=hdep ⟨6,.data⟩ Zd rfl
   have q9:l.getD 9 false=true:=hdep ⟨9,.data⟩ Zd rfl
   have q13:l.getD 13 false=true:=hdep ⟨13,.data⟩ Zd rfl
   clear hdep
   obtain rfl:=f1 q1
   obtain rfl:=f3 q3
   obtain ⟨rfl,o6,u6⟩:=f6 q6
   obtain ⟨rfl,o9,u9⟩:=f9 q9
   obtain ⟨rfl,o13,u13⟩:=f13 q13
   refine wpOp_of rfl rfl ?_
   generalize hK:CpInv w x a1 a2 a3 c1 c2 c3 (l.setIfInBounds 14 true)=K
   go_simp
   rw [←hK]
   unfold CpInv
   exact ⟨t3,_,t5,_,t7,t8,_,t10,t11,_,t13,t14,t15,_,_,b1,d1,g1,A1,C1,h1,b2,d2,g2,A2,C2,h2,g0,b3,d3,g3,rfl,hsz',hB,hz,hcap,HRB.out,Zaa,Zt,Zu,Zv,Zw,Zx,Zae,Zy,Zz,Zaf,Zag,Zp,Zq,Zay,(fun _=>rfl),Zaz,Zba,(by rw [kp 6 Zb,kp 9 Zb,kp 13 Zb];exact fun _=>⟨q6,q9,q13⟩),(fun _=>ki)⟩
  ·simp only [List.getElem?_toArray,List.getElem?_cons_succ,List.getElem?_cons_zero,Option.some.injEq] at ho
   subst ho
   have q14:l.getD 14 false=true:=hdep ⟨14,.data⟩ Zd rfl
   clear hdep
   obtain rfl:=f14 q14
   have Q14:=hid q14
   clear q14
   have R15:=f15 hui
   obtain ⟨y0,y1,y2,y3,y4⟩:=bk_vec R15
   have yf:=R15.free
   refine wpOp_of rfl rfl ?_
   generalize hK:CpInv w x a1 a2 a3 c1 c2 c3 (l.setIfInBounds 15 true)=K
   go_simp
   rw [←hK]
   have FR:FrP (fun q=>q=w.1.size+1) w' (((((w'.setCell ⟨w.1.size+1,0,none⟩ (.int .i64 x.now)).setCell ⟨w.1.size+1,1,none⟩ (.int .i64 x.floor)).setCell ⟨w.1.size+1,2,none⟩ (.slice b1 x.on d1)).setCell ⟨w.1.size+1,3,none⟩ (.slice b2 x.hn d2)).setCell ⟨w.1.size+1,4,none⟩ (.slice b3 x.tn d3)):=by
    iterate 5 refine FrP.setCell (P:=fun q=>q=w.1.size+1) ?_ (by rfl) _
    exact FrP.refl _ _
   unfold CpInv
   exact ⟨t3,t4,t5,t6,t7,t8,t9,t10,t11,t12,t13,t14,t15,t16,_,b1,d1,g1,A1,C1,h1,b2,d2,g2,A2,C2,h2,g0,b3,d3,g3,rfl,hsz',hB.trans (FR.below (fun q hq e=>by omega) Za),by simpa using hz,hcap,HRB.out.fr FR Za,Zaa,Zt,Zu,Zv,Zw,Zx,(by rw [kp 6 Zb];intro h;exact ⟨(f6 h).1,(f6 h).2.1.fr FR (fun k hk e=>by have:=(f6 h).2.2 k hk;omega),(f6 h).2.2⟩),Zy,Zz,(by rw [kp 9 Zb];intro h;exact ⟨(f9 h).1,(f9 h).2.1.fr FR (fun k hk e=>by have:=(f9 h).2.2 k hk;omega),(f9 h).2.2⟩),(by rw [kp 10 Zb,kp 13 Zb,kp 6 Zb,kp 9 Zb];intro h;obtain ⟨e1,e2,e3,e4,e5,e6⟩:=f10 h;exact ⟨e1,e2,by simpa using e3,fun h13=>ownsRow_fr (e4 h13) FR (fun g hg e=>by simp [Value.ownBlock] at hg;omega),e5,e6⟩),Zp,Zq,(by rw [kp 13 Zb];intro h;exact ⟨(f13 h).1,(f13 h).2.1.fr FR (fun k hk e=>by have:=(f13 h).2.2 hk.1;have:=hk.2;omega),(f13 h).2.2⟩),Zat,(fun h=>absurd (ki.symm.trans h) Zb),(fun _=>row5 R15),Zad,(by rw [kp 14 Zb];exact fun _=>Q14.out)⟩
end Go.Proofs.YtllmmkchokkaaaaGreatDoor
namespace Go.Proofs.YtllmmkchokkaaaaGreatDoor
open Go.RowKit
theorem apP158 {P:Prop} (h:P:=by
  have e':(q i).2.2=(q j).2.2:=e
  rcases Nat.lt_trichotomy i j with c|c|c
  ·have:=r_mono h.mono (show i+1≤j by omega) Za
   omega
  ·exact c
  ·have:=r_mono h.mono (show j+1≤i by omega) Za
   omega):P:=h
theorem ObjsOwnAt.at {w:World} {g hi n:Nat} {x:Nat→Ob} {r:Nat→Nat} (h:ObjsOwnAt w g hi n n x r):∃ A C hb,ObsAt w (some ⟨g,0,none⟩) g n x A C hb∧(∀ i,i<n→CapG w (x i).hn (A i) (C i))∧∀ q,blkH g n (fun i=>(x i).hn) hb q→g≤q∧q<hi:=by
 have h1:∀ i,∃ q:Option Addr × (Nat × Nat),i<n→ObCells w g (i*7) (x i) q.1 q.2.1∧StrsOwn w q.2.2 (q.2.2+1) q.1 (x i).hn (x i).hs∧((x i).hn≠0→r i≤q.2.2∧q.2.2<r (i+1))∧CapG w (x i).hn q.1 q.2.1:=fun i=>by
  by_cases hi':i<n
  ·obtain ⟨ah,ch,e1,e2,cg⟩:=h.at_ i hi'
   obtain ⟨b,e3,e4⟩:=e2.one
   exact ⟨(ah,ch,b),fun _=>⟨e1,e3,e4,cg⟩⟩
  ·exact ⟨(none,0,0),fun h=>absurd h hi'⟩
 obtain ⟨q,hq⟩:=Classical.skolem.1 h1
 have rl:∀ i,i≤n→r 0≤r i∧r i≤r n:=fun i hi'=>⟨r_mono h.mono Zbw hi',r_mono h.mono hi' Zbt⟩
 have e:∀ j v,w.cell? ⟨g,j,none⟩=some v→(w.cell? ⟨g,j,none⟩).getD (.int .i64 0)=v:=fun j v h=>by rw [h];rfl
 refine ⟨fun i=>(q i).1,fun i=>(q i).2.1,fun i=>(q i).2.2,⟨fun _=>rfl,fun _=>⟨fun j=>(w.cell? ⟨g,j,none⟩).getD (.int .i64 0),⟨h.room.lt,h.room.free,fun j hj=>?_⟩,fun i hi'=>?_⟩,fun i hi'=>(hq i hi').2.1,fun i hi' h0=>?_,⟨fun i hi' h0=>?_,fun i j hi' hj h0 h1 e=>?_⟩⟩,fun i hi'=>(hq i hi').2.2.2,fun k hk=>?_⟩
 ·obtain ⟨u,hu⟩:=h.room.has j hj
  rw [hu];rfl
 ·have k:=(hq i hi').1
  exact ⟨(e (i*7) _ k.c0),(e (i*7+1) _ k.c1),(e (i*7+2) _ k.c2),(e (i*7+3) _ k.c3),(e (i*7+4) _ k.c4),(e (i*7+5) _ k.c5),(e (i*7+6) _ k.c6)⟩
 ·have:=((hq i hi').2.2.1 h0).2
  have h2:=(rl (i+1) Za).2
  have h3:=h.rn
  have h4:=h.hi
  omega
 ·have:=((hq i hi').2.2.1 h0).1
  have h2:=(rl i Za).1
  have h3:=h.r0
  show (q i).2.2≠g
  omega
 ·have a1:=(hq i hi').2.2.1 h0
  have a2:=(hq j hj).2.2.1 h1
  exact apP158
 ·have h3:=h.r0
  have h4:=h.rn
  have h5:=rl 0 Za
  rcases hk with ⟨h0,rfl⟩|⟨i,hi',h0,rfl⟩
  ·omega
  ·have a1:=(hq i hi').2.2.1 h0
   have h6:=(rl i Za).1
   have h7:=(rl (i+1) Za).2
   show g≤(q i).2.2∧(q i).2.2<hi
   omega
theorem ChgsOwnAt.at {w:World} {g hi n:Nat} {x:Nat→Ch} {r:Nat→Nat} (h:ChgsOwnAt w g hi n n x r):∃ A C hb,ChsAt w (some ⟨g,0,none⟩) g n x A C hb∧∀ q,blkH g n (fun i=>(x i).ob.hn) hb q→g≤q∧q<hi:=by
 have h1:∀ i,∃ q:Option Addr × (Nat × Nat),i<n→ChCells w g (i*9) (x i) q.1 q.2.1∧StrsOwn w q.2.2 (q.2.2+1) q.1 (x i).ob.hn (x i).ob.hs∧((x i).ob.hn≠0→r i≤q.2.2∧q.2.2<r (i+1)):=fun i=>by
  by_cases hi':i<n
  ·obtain ⟨ah,ch,e1,e2⟩:=h.at_ i hi'
   obtain ⟨b,e3,e4⟩:=e2.one
   exact ⟨(ah,ch,b),fun _=>⟨e1,e3,e4⟩⟩
  ·exact ⟨(none,0,0),fun h=>absurd h hi'⟩
 obtain ⟨q,hq⟩:=Classical.skolem.1 h1
 have rl:∀ i,i≤n→r 0≤r i∧r i≤r n:=fun i hi'=>⟨r_mono h.mono Zbw hi',r_mono h.mono hi' Zbt⟩
 have e:∀ j v,w.cell? ⟨g,j,none⟩=some v→(w.cell? ⟨g,j,none⟩).getD (.int .i64 0)=v:=fun j v h=>by rw [h];rfl
 refine ⟨fun i=>(q i).1,fun i=>(q i).2.1,fun i=>(q i).2.2,⟨fun _=>rfl,fun _=>⟨fun j=>(w.cell? ⟨g,j,none⟩).getD (.int .i64 0),⟨h.room.lt,h.room.free,fun j hj=>?_⟩,fun i hi'=>?_⟩,fun i hi'=>(hq i hi').2.1,fun i hi' h0=>?_,⟨fun i hi' h0=>?_,fun i j hi' hj h0 h1 e=>?_⟩⟩,fun k hk=>?_⟩
 ·obtain ⟨u,hu⟩:=h.room.has j hj
  rw [hu];rfl
 ·have k:=(hq i hi').1
  exact ⟨(e (i*9) _ k.c0),(e (i*9+1) _ k.c1),(e (i*9+2) _ k.c2),(e (i*9+3) _ k.c3),(e (i*9+4) _ k.c4),(e (i*9+5) _ k.c5),(e (i*9+6) _ k.c6),(e (i*9+7) _ k.c7),(e (i*9+8) _ k.c8)⟩
 ·have:=((hq i hi').2.2 h0).2
  have h2:=(rl (i+1) Za).2
  have h3:=h.rn
  have h4:=h.hi
  omega
 ·have:=((hq i hi').2.2 h0).1
  have h2:=(rl i Za).1
  have h3:=h.r0
  show (q i).2.2≠g
  omega
 ·have a1:=(hq i hi').2.2 h0
  have a2:=(hq j hj).2.2 h1
  exact apP158
 ·have h3:=h.r0
  have h4:=h.rn
  have h5:=rl 0 Za
  rcases hk with ⟨h0,rfl⟩|⟨i,hi',h0,rfl⟩
  ·omega
  ·have a1:=(hq i hi').2.2 h0
   have h6:=(rl i Za).1
   have h7:=(rl (i+1) Za).2
   show g≤(q i).2.2∧(q i).2.2<hi
   omega
theorem TicsOwnAt.at {w:World} {g n:Nat} {x:Nat→Ti} (h:TicsOwnAt w g n n x):TisAt w (some ⟨g,0,none⟩) g n x:=by
 have e:∀ j v,w.cell? ⟨g,j,none⟩=some v→(w.cell? ⟨g,j,none⟩).getD (.int .i64 0)=v:=fun j v h=>by rw [h];rfl
 refine ⟨fun _=>rfl,fun _=>⟨fun j=>(w.cell? ⟨g,j,none⟩).getD (.int .i64 0),⟨h.room.lt,h.room.free,fun j hj=>?_⟩,fun i hi'=>?_⟩⟩
 ·obtain ⟨u,hu⟩:=h.room.has j hj
  rw [hu];rfl
 ·have k:=h.at_ i hi'
  exact ⟨(e (i*5) _ k.c0),(e (i*5+1) _ k.c1),(e (i*5+2) _ k.c2),(e (i*5+3) _ k.c3),(e (i*5+4) _ k.c4)⟩
theorem BkOwn.atC {w:World} {lo hi:Nat} {x:Bk} {g1 g2 g3:Nat} (h:BkOwn w lo hi x g1 g2 g3):∃ p:Pl,p.a1=some ⟨g1,0,none⟩∧p.a2=some ⟨g2,0,none⟩∧p.a3=some ⟨g3,0,none⟩∧BkAt w x p∧(∀ i,i<x.on→CapG w (x.os i).hn (p.A1 i) (p.C1 i))∧∀ q,blkB p x q→lo≤q∧q<hi:=by
 obtain ⟨⟨h1,r1,o1,o2⟩,⟨h2,r2,c1,c2⟩,ti,glo,ghi,gtop⟩:=h
 obtain ⟨A1,C1,b1,at1,cg1,k1⟩:=o1.at
 obtain ⟨A2,C2,b2,at2,k2⟩:=c1.at
 have x1:=o1.r0
 have x2:=o1.rn
 have x3:=r_mono o1.mono (Nat.zero_le x.on) Zbt
 have y1:=c1.r0
 have y2:=c1.rn
 have y3:=r_mono c1.mono (Nat.zero_le x.hn) Zbt
 refine ⟨⟨some ⟨g1,0,none⟩,some ⟨g2,0,none⟩,some ⟨g3,0,none⟩,g1,g2,g3,A1,C1,b1,A2,C2,b2⟩,rfl,rfl,rfl,⟨at1,at2,ti.at,fun k e1 e2=>?_,fun k e1 e2=>?_,fun k e1 e2=>?_⟩,cg1,fun k e=>?_⟩
 ·have a:=k1 k e1
  have b:=k2 k e2
  omega
 ·have a:=k1 k e1
  have b:k=g3:=e2.2
  omega
 ·have a:=k2 k e1
  have b:k=g3:=e2.2
  omega
 ·rcases e with e|e|e
  ·have a:=k1 k e
   omega
  ·have a:=k2 k e
   omega
  ·have b:k=g3:=e.2
   omega
theorem BkOwn.at {w:World} {lo hi:Nat} {x:Bk} {g1 g2 g3:Nat} (h:BkOwn w lo hi x g1 g2 g3):∃ p:Pl,p.a1=some ⟨g1,0,none⟩∧p.a2=some ⟨g2,0,none⟩∧p.a3=some ⟨g3,0,none⟩∧BkAt w x p∧∀ q,blkB p x q→lo≤q∧q<hi:=by
 obtain ⟨p,h1,h2,h3,h4,_,h5⟩:=h.atC
 exact ⟨p,h1,h2,h3,h4,h5⟩
theorem mkObs_le (k0:Nat) (x:Nat→Ob) (n:Nat):mkObs k0 x n≤k0+6*szObs n x:=by
 unfold szObs
 induction n with
 | zero=>simp [mkObs]
 | succ n ih=>simp only [mkObs,sumTo,szOb,szStrs] at *;omega
theorem mkChs_le (k0:Nat) (x:Nat→Ch) (n:Nat):mkChs k0 x n≤k0+8*szChs n x:=by
 unfold szChs
 induction n with
 | zero=>simp [mkChs]
 | succ n ih=>simp only [mkChs,sumTo,szCh,szOb,szStrs] at *;omega
theorem mkTis_le (k0:Nat) (x:Nat→Ti) (n:Nat):mkTis k0 x n≤k0+5*szTis n x:=by
 have h:mkTis k0 x n=k0+5*n:=by
  induction n with
  | zero=>rfl
  | succ n ih=>unfold mkTis;rw [ih];omega
 unfold szTis
 omega
theorem mkBk_le (k0:Nat) (x:Bk):mkBk k0 x≤k0+19*szBk x:=by
 unfold mkBk szBk
 have h1:=mkObs_le k0 x.os x.on
 have h2:=mkChs_le (mkObs k0 x.os x.on) x.hs x.hn
 have h3:=mkTis_le (mkChs (mkObs k0 x.os x.on) x.hs x.hn) x.ts x.tn
 omega
def Holds (W:World) (B:Nat) (c:Array Value):Prop:=∀ i,W.cell? ⟨B,i,none⟩=c[i]?
theorem Holds.below {W W':World} {B n:Nat} {c:Array Value} (h:Holds W B c) (hb:Below n W W') (hB:B<n):Holds W' B c:=fun i=>(hb.cell (p:=⟨B,i,none⟩) hB).trans (h i)
theorem holds_new (w:World) (c:Array Value) (t:TypeId):Holds (w.alloc (.cells c t)) w.1.size c:=fun i=>World.cell?_alloc_new w c t i
def bkCells (x:Bk) (a1 a2 a3:Option Addr) (c1 c2 c3:Nat):Array Value:=#[.int .i64 x.now,.int .i64 x.floor,.slice a1 x.on c1,.slice a2 x.hn c2,.slice a3 x.tn c3]
theorem holds_bk {W:World} {B:Nat} {x:Bk} {a1 a2 a3:Option Addr} {c1 c2 c3:Nat} (h:Holds W B (bkCells x a1 a2 a3 c1 c2 c3)) :
  W.cell? ⟨B,0,none⟩=some (.int .i64 x.now)∧W.cell? ⟨B,1,none⟩=some (.int .i64 x.floor)∧W.cell? ⟨B,2,none⟩=some (.slice a1 x.on c1)∧W.cell? ⟨B,3,none⟩=some (.slice a2 x.hn c2)∧W.cell? ⟨B,4,none⟩=some (.slice a3 x.tn c3):=⟨h 0,h 1,h 2,h 3,h 4⟩
end Go.Proofs.YtllmmkchokkaaaaGreatDoor
namespace Go.Proofs.YtllmmkchokkaaaaGreatDoor
open Go.RowKit Go.Maps
structure EO where
 ob:Ob
 A:Option Addr
 C:Nat
 hb:Nat
instance:Inhabited EO:=⟨⟨⟨ByteArray.empty,ByteArray.empty,0,0,ByteArray.empty,false,0,fun _=>ByteArray.empty⟩,none,0,0⟩⟩
def ixE (L:List EO) (i:Nat):EO:=(L[i]?).getD default
theorem ixE_lt {L:List EO} {i:Nat} (h:i<L.length):ixE L i=L[i]:=by simp [ixE,h]
theorem ixE_mem {L:List EO} {i:Nat} (h:i<L.length):ixE L i ∈ L:=by rw [ixE_lt h];exact List.getElem_mem h
theorem mem_ixE {L:List EO} {e:EO} (h:e ∈ L):∃ i,i<L.length∧ixE L i=e:=by
 obtain ⟨i,hi,rfl⟩:=List.mem_iff_getElem.1 h
 exact ⟨i,hi,ixE_lt hi⟩
structure RowE (w:World) (g:Nat) (L:List EO):Prop where
 lt:g<w.1.size
 free:∀ j,w.frozen? ⟨g,j,none⟩=false
 ob:∀ i,i<L.length→ObCells w g (i*7) (ixE L i).ob (ixE L i).A (ixE L i).C
theorem ObCells.frP {w w':World} {P:Nat→Prop} {b o:Nat} {x:Ob} {ad:Option Addr} {cap:Nat} (h:ObCells w b o x ad cap) (hf:FrP P w w') (hb:b<w.1.size) (hp:¬P b):ObCells w' b o x ad cap:=
 have e:∀ j,w'.cell? ⟨b,j,none⟩=w.cell? ⟨b,j,none⟩:=fun j=>hf.cell (p:=⟨b,j,none⟩) hb hp
 ⟨(e _).trans h.c0,(e _).trans h.c1,(e _).trans h.c2,(e _).trans h.c3,(e _).trans h.c4,(e _).trans h.c5,(e _).trans h.c6⟩
theorem RowE.fr {w w':World} {P:Nat→Prop} {g:Nat} {L:List EO} (h:RowE w g L) (hf:FrP P w w') (hp:¬P g):RowE w' g L:=
 ⟨Nat.lt_of_lt_of_le h.lt hf.size,fun j=>(hf.frozen (p:=⟨g,j,none⟩) h.lt hp).trans (h.free j),fun i hi=>(h.ob i hi).frP hf h.lt hp⟩
theorem RowE.grow {w w':World} {g:Nat} {L:List EO} (h:RowE w g L) (hf:Below w.1.size w w'):RowE w' g L:=h.fr (FrP.of_below (P:=fun _=>False) hf) (fun h=>h)
structure HoldE (w:World) (L:List EO):Prop where
 hold:∀ e,e ∈ L→StrsOwn w e.hb (e.hb+1) e.A e.ob.hn e.ob.hs
 lt:∀ e,e ∈ L→e.ob.hn≠0→e.hb<w.1.size
 ap:L.Pairwise fun e f=>e.ob.hn≠0→f.ob.hn≠0→e.hb≠f.hb
theorem HoldE.fr {w w':World} {P:Nat→Prop} {L:List EO} (h:HoldE w L) (hf:FrP P w w') (hp:∀ e,e ∈ L→e.ob.hn≠0→¬P e.hb):HoldE w' L:=
 ⟨fun e he=>(h.hold e he).frP hf (fun h0=>⟨hp e he h0,h.lt e he h0⟩),fun e he h0=>Nat.lt_of_lt_of_le (h.lt e he h0) hf.size,h.ap⟩
theorem HoldE.sub {w:World} {K L:List EO} (h:HoldE w L) (hs:K.Sublist L):HoldE w K:=
 ⟨fun e he=>h.hold e (hs.subset he),fun e he=>h.lt e (hs.subset he),h.ap.sublist hs⟩
theorem HoldE.ins {w:World} {K L:List EO} {e:EO} (h:HoldE w (K ++ L)) (ho:StrsOwn w e.hb (e.hb+1) e.A e.ob.hn e.ob.hs) (hl:e.ob.hn≠0→e.hb<w.1.size) (hne:∀ f,f ∈ K ++ L→e.ob.hn≠0→f.ob.hn≠0→e.hb≠f.hb):HoldE w (K ++ e::L):=by
 have hm:∀ f,f ∈ K ++ e::L→f=e∨f ∈ K ++ L:=fun f hf=>by
  rcases List.mem_append.1 hf with h1|h1
  ·exact Or.inr (List.mem_append_left _ h1)
  ·rcases List.mem_cons.1 h1 with h2|h2
   ·exact Or.inl h2
   ·exact Or.inr (List.mem_append_right _ h2)
 refine ⟨fun f hf=>?_,fun f hf=>?_,?_⟩
 ·rcases hm f hf with rfl|h1
  ·exact ho
  ·exact h.hold f h1
 ·rcases hm f hf with rfl|h1
  ·exact hl
  ·exact h.lt f h1
 ·obtain ⟨p1,p2,p3⟩:=List.pairwise_append.1 h.ap
  refine List.pairwise_append.2 ⟨p1,List.pairwise_cons.2 ⟨fun f hf=>hne f (List.mem_append_right _ hf),p2⟩,fun a ha b hb=>?_⟩
  rcases List.mem_cons.1 hb with rfl|h2
  ·exact fun h1 h2 e=>hne a (List.mem_append_left _ ha) h2 h1 e.symm
  ·exact p3 a ha b h2
theorem RowE.cellAt {w:World} {g:Nat} {L:List EO} (h:RowE w g L) {j:Nat} (hj:j<L.length*7):∃ v,w.cell? ⟨g,j,none⟩=some v:=by
 have hi:j / 7<L.length:=Za
 obtain ⟨c0,c1,c2,c3,c4,c5,c6⟩:=h.ob (j / 7) hi
 have hr:j % 7=0∨j % 7=1∨j % 7=2∨j % 7=3∨j % 7=4∨j % 7=5∨j % 7=6:=Za
 rcases hr with e|e|e|e|e|e|e
 ·exact ⟨_,by rw [show j=j / 7*7 by omega];exact c0⟩
 ·exact ⟨_,by rw [show j=j / 7*7+1 by omega];exact c1⟩
 ·exact ⟨_,by rw [show j=j / 7*7+2 by omega];exact c2⟩
 ·exact ⟨_,by rw [show j=j / 7*7+3 by omega];exact c3⟩
 ·exact ⟨_,by rw [show j=j / 7*7+4 by omega];exact c4⟩
 ·exact ⟨_,by rw [show j=j / 7*7+5 by omega];exact c5⟩
 ·exact ⟨_,by rw [show j=j / 7*7+6 by omega];exact c6⟩
theorem obsAt_of {w:World} {ad:Option Addr} {g:Nat} {L:List EO} (had:L≠[]→ad=some ⟨g,0,none⟩) (hr:L≠[]→RowE w g L) (hh:HoldE w L) (hne:∀ e,e ∈ L→e.ob.hn≠0→e.hb≠g) :
  ObsAt w ad g L.length (fun i=>(ixE L i).ob) (fun i=>(ixE L i).A) (fun i=>(ixE L i).C) (fun i=>(ixE L i).hb):=by
 have nn:0<L.length→L≠[]:=fun h e=>by rw [e] at h;exact absurd h (Nat.lt_irrefl _)
 refine ⟨fun h0=>had (nn h0),fun h0=>?_,fun i hi=>hh.hold _ (ixE_mem hi),fun i hi h0=>hh.lt _ (ixE_mem hi) h0,⟨fun i hi h0=>hne _ (ixE_mem hi) h0,fun i j hi hj h1 h2 e=>?_⟩⟩
 ·have r:=hr (nn h0)
  have hc:∀ o v,w.cell? ⟨g,o,none⟩=some v→(w.cell? ⟨g,o,none⟩).getD (.int .i64 0)=v:=fun o v e=>by rw [e];rfl
  refine ⟨fun j=>(w.cell? ⟨g,j,none⟩).getD (.int .i64 0),⟨r.lt,r.free,fun j hj=>?_⟩,fun i hi=>?_⟩
  ·obtain ⟨v,e⟩:=r.cellAt hj
   rw [e]
   rfl
  ·obtain ⟨c0,c1,c2,c3,c4,c5,c6⟩:=r.ob i hi
   exact ⟨hc _ _ c0,hc _ _ c1,hc _ _ c2,hc _ _ c3,hc _ _ c4,hc _ _ c5,hc _ _ c6⟩
 ·rcases Nat.lt_trichotomy i j with h|h|h
  ·exfalso
   have:=List.pairwise_iff_getElem.1 hh.ap i j hi hj h
   rw [←ixE_lt hi,←ixE_lt hj] at this
   exact this h1 h2 e
  ·exact h
  ·exfalso
   have:=List.pairwise_iff_getElem.1 hh.ap j i hj hi h
   rw [←ixE_lt hi,←ixE_lt hj] at this
   exact this h2 h1 e.symm
def rowE (n:Nat) (x:Nat→Ob) (A:Nat→Option Addr) (C hb:Nat→Nat):List EO:=(List.range n).map fun i=>⟨x i,A i,C i,hb i⟩
theorem rowE_len (n:Nat) (x:Nat→Ob) (A:Nat→Option Addr) (C hb:Nat→Nat):(rowE n x A C hb).length=n:=by simp [rowE]
theorem rowE_at {n:Nat} {x:Nat→Ob} {A:Nat→Option Addr} {C hb:Nat→Nat} {i:Nat} (h:i<n):ixE (rowE n x A C hb) i=⟨x i,A i,C i,hb i⟩:=by simp [ixE,rowE,h]
theorem rowE_of {w:World} {ad:Option Addr} {g n:Nat} {x:Nat→Ob} {A:Nat→Option Addr} {C hb:Nat→Nat} (h:ObsAt w ad g n x A C hb) :
  (rowE n x A C hb≠[]→ad=some ⟨g,0,none⟩∧RowE w g (rowE n x A C hb))∧HoldE w (rowE n x A C hb)∧∀ e,e ∈ rowE n x A C hb→e.ob.hn≠0→e.hb≠g:=by
 have hm:∀ e,e ∈ rowE n x A C hb→∃ i,i<n∧e=⟨x i,A i,C i,hb i⟩:=fun e he=>by
  obtain ⟨i,hi,rfl⟩:=mem_ixE he
  rw [rowE_len] at hi
  exact ⟨i,hi,rowE_at hi⟩
 refine ⟨fun h0=>?_,⟨fun e he=>?_,fun e he=>?_,?_⟩,fun e he=>?_⟩
 ·have hn:0<n:=by
   rcases Nat.eq_zero_or_pos n with e|e
   ·subst e;exact absurd rfl h0
   ·exact e
  obtain ⟨c,r,hc⟩:=h.row hn
  refine ⟨h.addr hn,r.lt,r.free,fun i hi=>?_⟩
  rw [rowE_len] at hi
  rw [rowE_at hi]
  obtain ⟨a0,a1,a2,a3,a4,a5,a6⟩:=hc i hi
  exact apP152
 ·obtain ⟨i,hi,rfl⟩:=hm e he
  exact h.hold i hi
 ·obtain ⟨i,hi,rfl⟩:=hm e he
  exact h.hlt i hi
 ·refine List.pairwise_iff_getElem.2 fun i j hi hj hij=>?_
  rw [←ixE_lt hi,←ixE_lt hj]
  rw [rowE_len] at hi hj
  rw [rowE_at hi,rowE_at hj]
  exact fun h1 h2 e=>absurd (h.ap.inj i j hi hj h1 h2 e) Za
 ·obtain ⟨i,hi,rfl⟩:=hm e he
  exact h.ap.ne i hi
theorem rowE_obs (n:Nat) (x:Nat→Ob) (A:Nat→Option Addr) (C hb:Nat→Nat):(rowE n x A C hb).map EO.ob=(List.range n).map x:=by simp [rowE]
def tkL (m:Nat) (y:Nat→Ob):List Ob:=(List.range m).map y
theorem tkL_succ (m:Nat) (y:Nat→Ob):tkL (m+1) y=tkL m y ++ [y m]:=by simp [tkL,List.range_succ]
theorem tkL_len (m:Nat) (y:Nat→Ob):(tkL m y).length=m:=by simp [tkL]
theorem tkL_upd (m:Nat) (y:Nat→Ob) (z:Ob):tkL (m+1) (updF y m z)=tkL m y ++ [z]:=by
 rw [tkL_succ]
 have h1:tkL m (updF y m z)=tkL m y:=by
  unfold tkL
  apply List.map_congr_left
  intro i hi
  have:=List.mem_range.1 hi
  exact if_neg Za
 rw [h1]
 simp [updF]
theorem keyI_neg7 (x z:Ob):keyI x z<0↔befB x z=true:=by
 have h:=keyI_bef x z
 cases hb:befB x z with
 | true=>rw [hb] at h;simp at h;simp;omega
 | false=>rw [hb] at h;simp at h;simp;omega
theorem keyI_nil7 (x z:Ob):keyI x z=0↔(x.kind.toList=z.kind.toList∧x.name.toList=z.name.toList):=by
 unfold keyI
 constructor
 ·intro h
  split at h
  ·exact absurd h Zb
  ·split at h
   ·rename_i h2
    split at h
    ·exact absurd h Zb
    ·split at h
     ·rename_i h3
      exact ⟨h2,h3⟩
     ·exact absurd h Zb
   ·exact absurd h Zb
 ·rintro ⟨h1,h2⟩
  rw [if_neg (by rw [ltB_irr h1];decide),if_pos h1,if_neg (by rw [ltB_irr h2];decide),if_pos h2]
def otherK (o y:Ob):Bool:=decide (¬keyI y o=0)
def putG (o:Ob):List Ob→List Ob
 | []=>[o]
 | y::r=>if befB y o then y::putG o r else o::(y::r).filter (otherK o)
def chgL (o:Ob) (gone:Bool) (l:List Ob):List Ob:=if gone then l.filter (otherK o) else putG o l
theorem putTo_done7 {x:Nat→Ob} {o:Ob} : ∀ n,tkL (putTo x o true n).m (putTo x o true n).y=(tkL n x).filter (otherK o)∧(putTo x o true n).done=true
 | 0=>⟨rfl,rfl⟩
 | n+1=>by
  obtain ⟨h1,h2⟩:=putTo_done7 (x:=x) (o:=o) n
  rw [tkL_succ,List.filter_append]
  show tkL (putStep o (x n) (putTo x o true n)).m (putStep o (x n) (putTo x o true n)).y=_∧(putStep o (x n) (putTo x o true n)).done=true
  unfold putStep
  rw [h2,if_pos rfl]
  by_cases hk:keyI (x n) o=0
  ·rw [if_pos hk]
   exact ⟨by rw [h1];simp [otherK,hk],h2⟩
  ·rw [if_neg hk]
   exact ⟨by rw [tkL_upd,h1];simp [otherK,hk],rfl⟩
def putW (o:Ob):List Ob→List Ob × Bool
 | []=>([],false)
 | y::r=>if befB y o then (y::(putW o r).1,(putW o r).2) else (o::(y::r).filter (otherK o),true)
theorem putW_snoc (o z:Ob):∀ l,putW o (l ++ [z])=if (putW o l).2 then ((putW o l).1 ++ [z].filter (otherK o),true) else if befB z o then ((putW o l).1 ++ [z],false) else ((putW o l).1 ++ (o::[z].filter (otherK o)),true)
 | []=>by
  simp only [List.nil_append,putW]
  cases befB z o<;>simp
 | y::r=>by
  have ih:=putW_snoc o z r
  by_cases hb:befB y o=true
  ·simp only [List.cons_append,putW,if_pos hb,ih]
   by_cases h1:(putW o r).2=true
   ·simp only [if_pos h1]
   ·simp only [if_neg h1]
    by_cases h2:befB z o=true
    ·simp only [if_pos h2]
    ·simp only [if_neg h2]
  ·simp only [List.cons_append,putW,if_neg hb,if_true]
   rw [←List.cons_append,List.filter_append]
theorem putG_W (o:Ob):∀ l,putG o l=if (putW o l).2 then (putW o l).1 else (putW o l).1 ++ [o]
 | []=>rfl
 | y::r=>by
  have ih:=putG_W o r
  by_cases hb:befB y o=true
  ·simp only [putG,putW,if_pos hb,ih]
   by_cases h1:(putW o r).2=true
   ·simp only [if_pos h1]
   ·simp only [if_neg h1,List.cons_append]
  ·simp only [putG,putW,if_neg hb,if_true]
theorem putTo_here7 {x:Nat→Ob} {o:Ob} : ∀ n,tkL (putTo x o false n).m (putTo x o false n).y=(putW o (tkL n x)).1∧(putTo x o false n).done=(putW o (tkL n x)).2
 | 0=>⟨rfl,rfl⟩
 | n+1=>by
  obtain ⟨h1,h2⟩:=putTo_here7 (x:=x) (o:=o) n
  rw [tkL_succ,putW_snoc]
  show tkL (putStep o (x n) (putTo x o false n)).m (putStep o (x n) (putTo x o false n)).y=_∧(putStep o (x n) (putTo x o false n)).done=_
  unfold putStep
  rw [h2]
  have kn:=keyI_neg7 (x n) o
  cases hd:(putW o (tkL n x)).2 with
  | true=>
   simp only [if_true]
   by_cases hk:keyI (x n) o=0
   ·rw [if_pos hk]
    exact ⟨by rw [h1];simp [otherK,hk],by rw [h2,hd]⟩
   ·rw [if_neg hk]
    exact ⟨by rw [tkL_upd,h1];simp [otherK,hk],rfl⟩
  | false=>
   simp only [Bool.false_eq_true,if_false]
   by_cases hn:keyI (x n) o<0
   ·rw [if_pos hn,if_pos (kn.1 hn)]
    exact ⟨by rw [tkL_upd,h1],rfl⟩
   ·have hb:¬befB (x n) o=true:=fun h=>hn (kn.2 h)
    rw [if_neg hn,if_neg hb]
    by_cases hk:keyI (x n) o=0
    ·rw [if_pos hk]
     exact ⟨by rw [tkL_upd,h1];simp [otherK,hk],rfl⟩
    ·rw [if_neg hk]
     refine ⟨?_,rfl⟩
     show tkL ((putTo x o false n).m+1+1) _=_
     rw [tkL_upd,tkL_upd,h1]
     simp [otherK,hk]
theorem putAll_list7 (n:Nat) (x:Nat→Ob) (o:Ob) (gone:Bool):tkL (putAll n x o gone).m (putAll n x o gone).y=chgL o gone (tkL n x):=by
 unfold putAll putEnd chgL
 cases gone with
 | true=>
  obtain ⟨h1,h2⟩:=putTo_done7 (x:=x) (o:=o) n
  rw [h2]
  simpa using h1
 | false=>
  obtain ⟨h1,h2⟩:=putTo_here7 (x:=x) (o:=o) n
  simp only [Bool.false_eq_true,if_false]
  rw [h2,putG_W]
  cases hd:(putW o (tkL n x)).2 with
  | true=>simpa using h1
  | false=>
   simp only [Bool.false_eq_true,if_false]
   rw [tkL_upd,h1]
theorem putG_split (o:Ob):∀ (l:List Ob) (k:Nat),k≤l.length→(∀ j,j<k→∃ y,l[j]? = some y∧befB y o=true)→(k<l.length→∃ y,l[k]? = some y∧befB y o=false) →
  putG o l=(l.filter (otherK o)).take k ++ o::(l.filter (otherK o)).drop k
 | [],k,hk,_,_=>by simp at hk;subst hk;rfl
 | y::r,0,_,_,h2=>by
  obtain ⟨z,e,hz⟩:=h2 Zd
  simp at e
  subst e
  simp [putG,hz]
 | y::r,k+1,hk,h1,h2=>by
  obtain ⟨z,e,hz⟩:=h1 0 Za
  simp at e
  subst e
  have ho:otherK o y=true:=by
   have:=(keyI_neg7 y o).2 hz
   unfold otherK
   exact decide_eq_true Za
  have ih:=putG_split o r k (by simpa using hk) (fun j hj=>by simpa using h1 (j+1) Za) (fun hk2=>by simpa using h2 (by simpa using hk2))
  simp only [putG,hz,if_true,List.filter_cons,ho,List.take_succ_cons,List.drop_succ_cons,List.cons_append,ih]
end Go.Proofs.YtllmmkchokkaaaaGreatDoor
namespace Go.Proofs.YtllmmkchokkaaaaGreatDoor
open Go.RowKit
structure Wr where
 op:Int
 kind:ByteArray
 name:ByteArray
 seen:Int
 text:ByteArray
 hold:ByteArray
structure WrFit (w:Wr):Prop where
 k:(w.kind.size:Int)≤140737488355328
 n:(w.name.size:Int)≤140737488355328
 t:(w.text.size:Int)≤140737488355328
 h:(w.hold.size:Int)≤140737488355328
def emB (s:ByteArray):Bool:=decide (s=⟨#[]⟩)
def useB (w:Wr):Bool:=
 if w.op=1 then decide (w.seen=0) else if w.op=2 then emB w.hold else if w.op=3 then emB w.text&&emB w.hold else if w.op=4 then emB w.text && !emB w.hold else if w.op=5 then emB w.text && !emB w.hold else false
def comB (w:Wr):Bool:=nameB w.kind&&(nameB w.name&&(decide (0≤w.seen)&&(decide (w.text.size≤300)&&(emB w.hold||nameB w.hold))))
def wrB (w:Wr):Bool:=comB w&&useB w
theorem toList_inj0 {a b:ByteArray} (h:a.toList=b.toList):a=b:=by
 cases a with|mk a=>cases b with|mk b=>
 have h2:a.toList=b.toList:=by simpa [ByteArray.toList_eq] using h
 exact congrArg ByteArray.mk (Array.ext' h2)
theorem em_ne {s:ByteArray} (h:¬s=⟨#[]⟩):(s.toList==(⟨#[]⟩:ByteArray).toList)=false:=by
 cases hb:(s.toList==(⟨#[]⟩:ByteArray).toList) with
 | false=>rfl
 | true=>exact absurd (toList_inj0 Zaj) h
theorem em_list {s:ByteArray} (h:¬s=⟨#[]⟩):¬s.toList=[]:=fun e=>h (toList_inj0 (e.trans (by simp [ByteArray.toList_eq])))
end Go.Proofs.YtllmmkchokkaaaaGreatDoor
namespace Go.Proofs.YtllmmkchokkaaaaGreatDoor
open Go.RowKit
def hasB (n:Nat) (s:Nat→ByteArray) (a:ByteArray):Bool:=!allTo (fun i=>!decide (s i=a)) n
theorem hasB_no {n:Nat} {s:Nat→ByteArray} {a:ByteArray} (h:∀ i,i<n→¬s i=a):hasB n s a=false:=by
 unfold hasB
 rw [allTo_iff.2 (fun i hi=>by simp [h i hi])]
 rfl
theorem hasB_yes {n:Nat} {s:Nat→ByteArray} {a:ByteArray} {k:Nat} (hk:k<n) (h:s k=a):hasB n s a=true:=by
 unfold hasB
 rw [allTo_no (p:=fun i=>!decide (s i=a)) hk (by simp [h])]
 rfl
theorem beq_ne {a b:ByteArray} (h:¬a=b):(a.toList==b.toList)=false:=by
 cases hb:(a.toList==b.toList) with
 | false=>rfl
 | true=>exact absurd (toList_inj0 Zaj) h
theorem l2Has_any (n:Nat) (s:Nat→ByteArray) (ad:Option Addr) (cap:Nat) (a:ByteArray) (w:World) (lo hi:Nat) (hl:(n:Int)≤140737488355328) (hc:StrsIn w lo hi ad n s) :
  Calls Tryz.prog 131 #[.slice ad n cap,.string a] w fun e w'=>e=.returned (.bool (hasB n s a))∧w'=w:=by
 go_enter Tryz.func131,Tryz.ntmps131
 go_wp2
 go_loopw [5] (fun i wr=>∃ k:Nat,k≤n∧i=.int .i64 k∧wr=w∧∀ j,j<k→¬s j=a) (fun i _=>n-(intOf i).toNat)
 case atStart=>exact ⟨0,Nat.zero_le _,rfl,rfl,fun j hj=>absurd hj (Nat.not_lt_zero _)⟩
 case round=>
  obtain ⟨k,hk,rfl,rfl,hall⟩:=hrel
  have HA:=hid hall
  clear hall
  by_cases hkn:k<n
  ·obtain ⟨b,off,rfl,hlo,hbh,hcx⟩:=hc k hkn
   clear hc
   by_cases he:s k=a
   ·subst he
    have HE:=hid (hasB_yes (a:=s k) hkn rfl)
    go_wp2
    go_ret
    exact ⟨ret_bool HE.out.symm,rfl⟩
   ·have hb:=beq_ne he
    have HN:=hid he
    clear he
    go_wp2
    go_roundw
    case rel=>exact ⟨k+1,Za,by go_num,by first|trivial|rfl,fun j hj=>(by
     rcases Nat.lt_or_ge j k with h3|h3
     ·exact HA.out j h3
     ·have:j=k:=Za
      subst this;exact HN.out)⟩
    case measure=>simp [intOf];omega
  ·have HE:=hid (hasB_no (n:=n) (s:=s) (a:=a) (fun i hi=>HA.out i Za))
   clear hc
   go_wp2
   go_ret
   exact ⟨ret_bool HE.out.symm,rfl⟩
def szWr (v:Wr):Nat:=v.kind.size+v.name.size+v.text.size+v.hold.size
theorem apP151 {P:Prop} (h:P:=by
  have HE:=hid (show szOut left (szWr ⟨op,ki,na,se,te,ho⟩) = -1 from szOut_no (by rw [hs];omega))
  clear hs
  go_enter Tryz.func7,Tryz.ntmps7
  go_wp2
  go_ret
  exact ⟨ret_int HE.out.symm,below_alloc _ _⟩):P:=h
theorem szWr_any (v:Wr) (hf:WrFit v) (left:Int) (w:World) (h0:0≤left) (h1:left≤1048576) :
  Calls Tryz.prog 7 #[.agg #[.int .i64 v.op,.string v.kind,.string v.name,.int .i64 v.seen,.string v.text,.string v.hold],.int .i64 left] w fun e w'=>e=.returned (.int .i64 (szOut left (szWr v)))∧Below w.1.size w w':=by
 obtain ⟨op,ki,na,se,te,ho⟩:=v
 obtain ⟨f1,f2,f3,f4⟩:=hf
 dsimp only at f1 f2 f3 f4 ⊢
 have hs:szWr ⟨op,ki,na,se,te,ho⟩=ki.size+na.size+te.size+ho.size:=rfl
 by_cases c1:left<ki.size
 ·exact apP151
 by_cases c2:left-ki.size<na.size
 ·exact apP151
 by_cases c3:left-ki.size-na.size<te.size
 ·exact apP151
 by_cases c4:left-ki.size-na.size-te.size<ho.size
 ·exact apP151
 have HE:=hid (show szOut left (szWr ⟨op,ki,na,se,te,ho⟩)=left-ki.size-na.size-te.size-ho.size from (szOut_yes (by rw [hs];omega)).trans (by rw [hs];omega))
 clear hs
 go_enter Tryz.func7,Tryz.ntmps7
 go_wp2
 go_ret
 exact ⟨ret_int HE.out.symm,below_alloc _ _⟩
theorem toWr_any (v:Wr) (w:World) :
  Calls Tryz.prog 10 #[.agg #[.int .i64 v.op,.string v.kind,.string v.name,.int .i64 v.seen,.string v.text,.string v.hold]] w fun e w'=>e=.returned (.agg #[.int .i64 v.op,.string v.kind,.string v.name,.int .i64 v.seen,.string v.text,.string v.hold])∧Below w.1.size w w':=by
 go_enter Tryz.func10,Tryz.ntmps10
 go_wp2
 refine bodyPost_ret (v:=.agg #[.int .i64 v.op,.string v.kind,.string v.name,.int .i64 v.seen,.string v.text,.string v.hold]) (by simp [results,Tryz.results10,go_sem]) rfl ⟨rfl,?_⟩
 exact (((Below.refl _ _).alloc Zbt _).alloc Zd _).alloc Zc _
theorem eqDid_any (co ve:Int) (x:Bk) (a1 a2 a3 b1 b2 b3:Option Addr) (c1 c2 c3 d1 d2 d3:Nat) (w:World) (lo hi lo2 hi2:Nat) (hh:hi≤w.1.size) (hh2:hi2≤w.1.size) (hf:BkFit x) (hc:BkIn w lo hi x a1 a2 a3) (hc2:BkIn w lo2 hi2 x b1 b2 b3) :
  Calls Tryz.prog 12 #[.agg #[.int .i64 co,.int .i64 x.now,.int .i64 x.floor,.slice a1 x.on c1,.slice a2 x.hn c2,.slice a3 x.tn c3,.int .i64 ve],.agg #[.int .i64 co,.int .i64 x.now,.int .i64 x.floor,.slice b1 x.on d1,.slice b2 x.hn d2,.slice b3 x.tn d3,.int .i64 ve]] w fun e w'=>e=.returned (.bool true)∧Below w.1.size w w':=by
 have H1:=hid (fun o1 o2=>(hc.below (below_alloc w o1) hh).below (below_alloc (w.alloc o1) o2) Zc)
 have H2:=hid (fun o1 o2=>(hc2.below (below_alloc w o1) hh2).below (below_alloc (w.alloc o1) o2) Zc)
 clear hc hc2
 go_enter Tryz.func12,Tryz.ntmps12
 go_wp2_with fail
 refine (eqBk_any x a1 a2 a3 b1 b2 b3 c1 c2 c3 d1 d2 d3 _ lo hi lo2 hi2 Zc Zc hf (H1.out _ _) (H2.out _ _)).mono ?_
 rintro e w1 ⟨rfl,hb1⟩
 obtain ⟨A0,A1,_,_⟩:=two_cell hb1
 have p6:=A0 6
 have q6:=A1 6
 simp only [List.getElem?_toArray,List.getElem?_cons_succ,List.getElem?_cons_zero] at p6 q6
 have B1:Below w.1.size w w1:=((below_alloc _ _).alloc Zd _).trans (hb1.mono Zc)
 clear A0 A1 hb1
 go_wp2
 go_ret
 exact ⟨rfl,B1⟩
theorem markDid_own (co ve:Int) (x:Bk) (p:Pl) (c1 c2 c3 k0:Nat) (w:World) (l1:(x.on:Int)≤1048576) (l2:(x.hn:Int)≤1048576) (l3:(x.tn:Int)≤1048576) (hk1:1≤(k0:Int)) (hk2:(mkBk k0 x:Int)≤1073741824) (hc:BkAt w x p) :
  Calls Tryz.prog 15 #[.agg #[.int .i64 co,.int .i64 x.now,.int .i64 x.floor,.slice p.a1 x.on c1,.slice p.a2 x.hn c2,.slice p.a3 x.tn c3,.int .i64 ve],.int .i64 k0] w fun e w'=>e=.returned (.int .i64 (mkBk k0 x))∧BkAt w' (ykBk k0 x) p∧FrP (blkB p x) w w':=by
 have H1:=hid (fun o=>hc.grow (below_alloc w o))
 clear hc
 go_enter Tryz.func15,Tryz.ntmps15
 go_wp2_with fail
 refine (markBk_own x p c1 c2 c3 k0 _ l1 l2 l3 hk1 hk2 (H1.out _)).mono ?_
 rintro e w1 ⟨rfl,o1,f1⟩
 have O1:=hid o1
 have F1:=hid ((FrP.of_below Zbu).trans f1)
 clear o1 f1
 go_wp2
 go_ret
 exact ⟨rfl,O1.out,F1.out⟩
theorem heldDid_own (co ve no fl:Int) (x:Bk) (p:Pl) (c1 c2 c3 k0:Nat) (w:World) (l1:(x.on:Int)≤1048576) (l2:(x.hn:Int)≤1048576) (l3:(x.tn:Int)≤1048576) (hk1:1≤(k0:Int)) (hk2:(mkBk k0 x:Int)≤1073741824) (hc:BkAt w (ykBk k0 x) p) :
  Calls Tryz.prog 16 #[.agg #[.int .i64 co,.int .i64 no,.int .i64 fl,.slice p.a1 x.on c1,.slice p.a2 x.hn c2,.slice p.a3 x.tn c3,.int .i64 ve],.int .i64 k0] w fun e w'=>e=.returned (.int .i64 (mkBk k0 x))∧Below w.1.size w w':=by
 have H1:=hid (fun o=>hc.grow (below_alloc w o))
 clear hc
 go_enter Tryz.func16,Tryz.ntmps16
 go_wp2_with fail
 refine (heldBk_own x p c1 c2 c3 k0 _ l1 l2 l3 hk1 hk2 no fl (H1.out _)).mono ?_
 rintro e w1 ⟨rfl,b1⟩
 have B1:Below w.1.size w w1:=(below_alloc _ _).trans (b1.mono Zd)
 clear b1
 go_wp2
 go_ret
 exact ⟨rfl,B1⟩
end Go.Proofs.YtllmmkchokkaaaaGreatDoor
namespace Go.Proofs.YtllmmkchokkaaaaGreatDoor
open Go.RowKit
theorem beq_ne0 {a b:ByteArray} (h:¬a=b):(a.toList==b.toList)=false:=by
 cases hb:(a.toList==b.toList) with
 | false=>rfl
 | true=>exact absurd (toList_inj0 Zaj) h
theorem isNaN2_any (a:ByteArray) (w:World):Calls Tryz.prog 185 #[.string a] w fun e w'=>e=.returned (.bool false)∧w'=w:=by
 go_enter Tryz.func185,Tryz.ntmps185
 go_wp2
 go_ret
 exact ⟨rfl,rfl⟩
theorem less_any (a b:ByteArray) (w:World):Calls Tryz.prog 184 #[.string a,.string b] w fun e w'=>e=.returned (.bool (ltB a b))∧w'=w:=by
 go_enter Tryz.func184,Tryz.ntmps184
 go_wp2_with (go_at_call 201;refine (isNaN1_any _ _).mono ?_;rintro e w1 ⟨rfl,rfl⟩)
 go_ret
 exact ⟨rfl,rfl⟩
theorem apP1510 {P:Prop} (h:P:=by
  refine bodyPost_ret (v:=.tuple #[.int .i64 p,.bool false]) (by simp [results,Tryz.results155,go_sem]) rfl ⟨p,Za,H1.out,H2.out,by rw [HE.out],rfl⟩):P:=h
theorem search_any (n:Nat) (s:Nat→ByteArray) (ad:Option Addr) (cap:Nat) (a:ByteArray) (w:World) (lo hi:Nat) (hl:(n:Int)≤1099511627776) (hc:StrsIn w lo hi ad n s) (hasc:∀ i j,i<j→j<n→ltB (s j) a=true→ltB (s i) a=true) :
  Calls Tryz.prog 155 #[.slice ad n cap,.string a] w fun e w'=>∃ i:Nat,i≤n∧(∀ j,j<i→ltB (s j) a=true)∧(∀ j,i≤j→j<n→ltB (s j) a=false)∧e=.returned (.tuple #[.int .i64 i,.bool (decide (i<n)&&decide (s i=a))])∧w'=w:=by
 go_enter Tryz.func155,Tryz.ntmps155
 go_wp2
 go_loopw [7,8] (fun i j wr=>∃ p q:Nat,p≤q∧q≤n∧i=.int .i64 p∧j=.int .i64 q∧wr=w∧(∀ j,j<p→ltB (s j) a=true)∧(∀ j,q≤j→j<n→ltB (s j) a=false)) (fun i j _=>(intOf j-intOf i).toNat)
 case atStart=>exact ⟨0,n,Nat.zero_le _,Nat.le_refl _,rfl,rfl,rfl,fun j hj=>absurd hj (Nat.not_lt_zero _),fun j h1 h2=>absurd h2 Za⟩
 case round=>
  obtain ⟨p,q,hpq,hqn,rfl,rfl,rfl,hlo',hhi'⟩:=hrel
  have H1:=hid hlo'
  have H2:=hid hhi'
  clear hlo' hhi'
  by_cases hp:p<q
  ·obtain ⟨b,off,rfl,hlo0,hbh0,hcm⟩:=hc ((p+q) / 2) Za
   clear hc
   have HAS:=hid hasc
   clear hasc
   cases hlt:ltB (s ((p+q) / 2)) a with
   | true=>
    have HN:=hid (show ∀ j,j<(p+q) / 2+1→ltB (s j) a=true from fun j hj=>by
     rcases Nat.lt_or_ge j ((p+q) / 2) with h3|h3
     ·exact HAS.out j _ h3 Za hlt
     ·have:j=(p+q) / 2:=Za
      subst this;exact hlt)
    go_wp2_with (go_at_call 184;refine (less_any _ _ _).mono ?_;rintro e w1 ⟨rfl,rfl⟩;rw [hlt])
    go_roundw
    case rel=>exact ⟨(p+q) / 2+1,q,Za,hqn,by go_num,by first|rfl|trivial,by first|rfl|trivial,HN.out,H2.out⟩
    case measure=>simp [intOf];omega
   | false=>
    have HN:=hid (show ∀ j,(p+q) / 2≤j→j<n→ltB (s j) a=false from fun j h1 h2=>by
     rcases Nat.lt_or_ge ((p+q) / 2) j with h3|h3
     ·cases hx:ltB (s j) a with
      | false=>rfl
      | true=>rw [HAS.out _ j h3 h2 hx] at hlt;cases hlt
     ·have:j=(p+q) / 2:=Za
      subst this;exact hlt)
    go_wp2_with (go_at_call 184;refine (less_any _ _ _).mono ?_;rintro e w1 ⟨rfl,rfl⟩;rw [hlt])
    go_roundw
    case rel=>exact ⟨p,(p+q) / 2,Za,Za,by first|rfl|trivial,by go_num,by first|rfl|trivial,H1.out,HN.out⟩
    case measure=>simp [intOf];omega
  ·have hpe:p=q:=Za
   subst hpe
   clear hasc
   by_cases hpn:p<n
   ·obtain ⟨b,off,rfl,hlo0,hbh0,hcm⟩:=hc p hpn
    clear hc
    by_cases he:s p=a
    ·have HE:=hid (show (decide (p<n)&&decide (s p=a))=true by simp [hpn,he])
     rw [he] at hcm
     clear he
     go_wp2
     refine bodyPost_ret (v:=.tuple #[.int .i64 p,.bool true]) (by simp [results,Tryz.results155,go_sem]) rfl ⟨p,Za,H1.out,H2.out,by rw [HE.out],rfl⟩
    ·have hb:=beq_ne0 he
     have HE:=hid (show (decide (p<n)&&decide (s p=a))=false by simp [he])
     clear he
     go_wp2_with (go_at_call 185;refine (isNaN2_any _ _).mono ?_;rintro e w1 ⟨rfl,rfl⟩)
     exact apP1510
   ·have HE:=hid (show (decide (p<n)&&decide (s p=a))=false by simp [hpn])
    clear hc
    go_wp2
    exact apP1510
end Go.Proofs.YtllmmkchokkaaaaGreatDoor
namespace Go.Proofs.YtllmmkchokkaaaaGreatDoor
open Go.RowKit
theorem placeCmp_any (o:Ob) (ad:Option Addr) (cap:Nat) (ki na:ByteArray) (w:World) :
  Calls Tryz.prog 152 #[.agg #[.string o.kind,.string o.name,.int .i64 o.ver,.int .i64 o.born,.string o.text,.bool o.ending,.slice ad o.hn cap],.agg #[.string ki,.string na]] w fun e w'=>e=.returned (.int .i64 (orI (cmpI o.kind ki) (cmpI o.name na)))∧Below w.1.size w w':=by
 go_enter Tryz.func152,Tryz.ntmps152
 go_wp2
 have hne:Nonempty (GW ((w.alloc (.cells #[.string o.kind,.string o.name,.int .i64 o.ver,.int .i64 o.born,.string o.text,.bool o.ending,.slice ad o.hn cap] 118)).alloc (.cells #[.string ki,.string na] 139))):=⟨⟨_,Below.refl _ _⟩⟩
 have x0:=subcell (W1:=((w.alloc (.cells #[.string o.kind,.string o.name,.int .i64 o.ver,.int .i64 o.born,.string o.text,.bool o.ending,.slice ad o.hn cap] 118)).alloc (.cells #[.string ki,.string na] 139))) (p:=⟨w.1.size,0,none⟩) (v:=.string o.kind) Zac Zc
 have x1:=subcell (W1:=((w.alloc (.cells #[.string o.kind,.string o.name,.int .i64 o.ver,.int .i64 o.born,.string o.text,.bool o.ending,.slice ad o.hn cap] 118)).alloc (.cells #[.string ki,.string na] 139))) (p:=⟨w.1.size,1,none⟩) (v:=.string o.name) Zac Zc
 have x2:=subcell (W1:=((w.alloc (.cells #[.string o.kind,.string o.name,.int .i64 o.ver,.int .i64 o.born,.string o.text,.bool o.ending,.slice ad o.hn cap] 118)).alloc (.cells #[.string ki,.string na] 139))) (p:=⟨w.1.size,2,none⟩) (v:=.int .i64 o.ver) Zac Zc
 have x3:=subcell (W1:=((w.alloc (.cells #[.string o.kind,.string o.name,.int .i64 o.ver,.int .i64 o.born,.string o.text,.bool o.ending,.slice ad o.hn cap] 118)).alloc (.cells #[.string ki,.string na] 139))) (p:=⟨w.1.size,3,none⟩) (v:=.int .i64 o.born) Zac Zc
 have x4:=subcell (W1:=((w.alloc (.cells #[.string o.kind,.string o.name,.int .i64 o.ver,.int .i64 o.born,.string o.text,.bool o.ending,.slice ad o.hn cap] 118)).alloc (.cells #[.string ki,.string na] 139))) (p:=⟨w.1.size,4,none⟩) (v:=.string o.text) Zac Zc
 have x5:=subcell (W1:=((w.alloc (.cells #[.string o.kind,.string o.name,.int .i64 o.ver,.int .i64 o.born,.string o.text,.bool o.ending,.slice ad o.hn cap] 118)).alloc (.cells #[.string ki,.string na] 139))) (p:=⟨w.1.size,5,none⟩) (v:=.bool o.ending) Zac Zc
 have x6:=subcell (W1:=((w.alloc (.cells #[.string o.kind,.string o.name,.int .i64 o.ver,.int .i64 o.born,.string o.text,.bool o.ending,.slice ad o.hn cap] 118)).alloc (.cells #[.string ki,.string na] 139))) (p:=⟨w.1.size,6,none⟩) (v:=.slice ad o.hn cap) Zac Zc
 have z0:=subcell (W1:=((w.alloc (.cells #[.string o.kind,.string o.name,.int .i64 o.ver,.int .i64 o.born,.string o.text,.bool o.ending,.slice ad o.hn cap] 118)).alloc (.cells #[.string ki,.string na] 139))) (p:=⟨w.1.size+1,0,none⟩) (v:=.string ki) Zd Zd
 have z1:=subcell (W1:=((w.alloc (.cells #[.string o.kind,.string o.name,.int .i64 o.ver,.int .i64 o.born,.string o.text,.bool o.ending,.slice ad o.hn cap] 118)).alloc (.cells #[.string ki,.string na] 139))) (p:=⟨w.1.size+1,1,none⟩) (v:=.string na) Zd Zd
 refine wp_region_grow Zf Zf ?_
 repeat (go_big_quiet_step (first|(go_at_call 139;go_must (exact grow_of (keyOf0_any o ad cap _)))|(go_at_call 153;go_must (exact grow_of (keyCmp_any _ _ _ _ _)))))
 refine wpQuiet_nil ?_
 rintro w2 ⟨u,hu⟩
 have hw2:Below ((w.alloc (.cells #[.string o.kind,.string o.name,.int .i64 o.ver,.int .i64 o.born,.string o.text,.bool o.ending,.slice ad o.hn cap] 118)).alloc (.cells #[.string ki,.string na] 139)).1.size ((w.alloc (.cells #[.string o.kind,.string o.name,.int .i64 o.ver,.int .i64 o.born,.string o.text,.bool o.ending,.slice ad o.hn cap] 118)).alloc (.cells #[.string ki,.string na] 139)) w2:=hu▸u.prop
 clear hu u hne x0 x1 x2 x3 x4 x5 x6 z0 z1
 go_wp2
 go_ret
 exact ⟨rfl,((below_alloc' _ _).alloc Zd _).trans (hw2.mono Zc)⟩
end Go.Proofs.YtllmmkchokkaaaaGreatDoor
namespace Go.Proofs.YtllmmkchokkaaaaGreatDoor
open Go.RowKit
def kcI (x:Nat→Ob) (ki na:ByteArray) (i:Nat):Int:=orI (cmpI (x i).kind ki) (cmpI (x i).name na)
theorem apP159 {P:Prop} (h:P:=by
  go_wp2
  refine bodyPost_ret (v:=.tuple #[.int .i64 p,.bool false]) (by simp [results,Tryz.results151,go_sem]) rfl ⟨p,Za,H1.out,H2.out,by rw [HE.out],hBw.trans (hw2.mono hBw.size)⟩):P:=h
theorem searchF_any (n:Nat) (x:Nat→Ob) (ad:Option Addr) (cap:Nat) (ki na:ByteArray) (w:World) (lo hi:Nat) (hhi:hi≤w.1.size) (hl:(n:Int)≤1099511627776) (hc:ObjsIn w lo hi ad n x) (hasc:∀ i j,i<j→j<n→kcI x ki na j<0→kcI x ki na i<0) :
  Calls Tryz.prog 151 #[.slice ad n cap,.agg #[.string ki,.string na],.func (.func 152) #[] #[]] w fun e w'=>∃ i:Nat,i≤n∧(∀ j,j<i→kcI x ki na j<0)∧(∀ j,i≤j→j<n→0≤kcI x ki na j)∧e=.returned (.tuple #[.int .i64 i,.bool (decide (i<n)&&decide (kcI x ki na i=0))])∧Below w.1.size w w':=by
 have HAS:=hid hasc
 clear hasc
 go_enter Tryz.func151,Tryz.ntmps151
 go_wp2
 go_loopw [9,10] (fun i j wr=>∃ p q:Nat,p≤q∧q≤n∧i=.int .i64 p∧j=.int .i64 q∧Below (w.1.size+1) (w.alloc (.cells #[.string ki,.string na] 139)) wr∧(∀ j,j<p→kcI x ki na j<0)∧(∀ j,q≤j→j<n→0≤kcI x ki na j)) (fun i j _=>(intOf j-intOf i).toNat)
 case atStart=>exact ⟨0,n,Nat.zero_le _,Nat.le_refl _,rfl,rfl,Below.refl _ _,fun j hj=>absurd hj (Nat.not_lt_zero _),fun j h1 h2=>absurd h2 Za⟩
 case round=>
  obtain ⟨p,q,hpq,hqn,rfl,rfl,hb,hlo',hhi'⟩:=hrel
  have H1:=hid hlo'
  have H2:=hid hhi'
  clear hlo' hhi'
  have hBw:Below w.1.size w wr:=(below_alloc _ _).trans (hb.mono Za)
  have hsz:w.1.size+1≤wr.1.size:=by have:=hb.size;simpa using this
  by_cases hp:p<q
  ·obtain ⟨b,off,ah,ch,rfl,hlo0,hbh0,hcx,_⟩:=hc ((p+q) / 2) Za
   obtain ⟨d0,d1,d2,d3,d4,d5,d6⟩:=hcx.below hBw Za
   have x0:=subcell d0 Zk
   have x1:=subcell d1 Zk
   have x2:=subcell d2 Zk
   have x3:=subcell d3 Zk
   have x4:=subcell d4 Zk
   have x5:=subcell d5 Zk
   have x6:=subcell d6 Zk
   have y0:=subcell (p:=⟨w.1.size,0,none⟩) (v:=.string ki) (box_cell (w:=w) (c:=#[.string ki,.string na]) (t:=139) Zaj 0) Zh
   have y1:=subcell (p:=⟨w.1.size,1,none⟩) (v:=.string na) (box_cell (w:=w) (c:=#[.string ki,.string na]) (t:=139) Zaj 1) Zh
   have hne:Nonempty (GW wr):=⟨⟨_,Below.refl _ _⟩⟩
   clear hc d0 d1 d2 d3 d4 d5 d6
   by_cases hlt:kcI x ki na ((p+q) / 2)<0
   ·have HN:=hid (show ∀ j,j<(p+q) / 2+1→kcI x ki na j<0 from fun j hj=>by
     rcases Nat.lt_or_ge j ((p+q) / 2) with h3|h3
     ·exact HAS.out j _ h3 Za hlt
     ·have:j=(p+q) / 2:=Za
      subst this;exact hlt)
    have hd:decide (orI (cmpI (x ((p+q) / 2)).kind ki) (cmpI (x ((p+q) / 2)).name na)<0)=true:=decide_eq_true hlt
    go_wp2
    refine wp_region_grow Zf Zf ?_
    repeat (go_big_quiet_step ((go_at_call 152;go_must (exact grow_of (placeCmp_any (x ((p+q) / 2)) ah ch ki na _)))))
    refine wpQuiet_nil ?_
    rintro w2 ⟨u,hu⟩
    have hw2:Below wr.1.size wr w2:=hu▸u.prop
    clear hu u hne x0 x1 x2 x3 x4 x5 x6 y0 y1
    go_wp2
    go_roundw
    case rel=>exact ⟨(p+q) / 2+1,q,Za,hqn,by go_num,by first|rfl|trivial,hb.trans (hw2.mono Za),HN.out,H2.out⟩
    case measure=>simp [intOf];omega
   ·have HN:=hid (show ∀ j,(p+q) / 2≤j→j<n→0≤kcI x ki na j from fun j h1 h2=>by
     rcases Nat.lt_or_ge ((p+q) / 2) j with h3|h3
     ·exact Int.not_lt.1 (fun hx=>hlt (HAS.out _ j h3 h2 hx))
     ·have:j=(p+q) / 2:=Za
      subst this;exact Int.not_lt.1 hlt)
    have hd:decide (orI (cmpI (x ((p+q) / 2)).kind ki) (cmpI (x ((p+q) / 2)).name na)<0)=false:=decide_eq_false hlt
    go_wp2
    refine wp_region_grow Zf Zf ?_
    repeat (go_big_quiet_step ((go_at_call 152;go_must (exact grow_of (placeCmp_any (x ((p+q) / 2)) ah ch ki na _)))))
    refine wpQuiet_nil ?_
    rintro w2 ⟨u,hu⟩
    have hw2:Below wr.1.size wr w2:=hu▸u.prop
    clear hu u hne x0 x1 x2 x3 x4 x5 x6 y0 y1
    go_wp2
    go_roundw
    case rel=>exact ⟨p,(p+q) / 2,Za,Za,by first|rfl|trivial,by go_num,hb.trans (hw2.mono Za),H1.out,HN.out⟩
    case measure=>simp [intOf];omega
  ·have hpe:p=q:=Za
   subst hpe
   by_cases hpn:p<n
   ·have hg:decide ((p:Int)<n)=true:=decide_eq_true Za
    obtain ⟨b,off,ah,ch,rfl,hlo0,hbh0,hcx,_⟩:=hc (p) Za
    obtain ⟨d0,d1,d2,d3,d4,d5,d6⟩:=hcx.below hBw Za
    have x0:=subcell d0 Zk
    have x1:=subcell d1 Zk
    have x2:=subcell d2 Zk
    have x3:=subcell d3 Zk
    have x4:=subcell d4 Zk
    have x5:=subcell d5 Zk
    have x6:=subcell d6 Zk
    have y0:=subcell (p:=⟨w.1.size,0,none⟩) (v:=.string ki) (box_cell (w:=w) (c:=#[.string ki,.string na]) (t:=139) Zaj 0) Zh
    have y1:=subcell (p:=⟨w.1.size,1,none⟩) (v:=.string na) (box_cell (w:=w) (c:=#[.string ki,.string na]) (t:=139) Zaj 1) Zh
    have hne:Nonempty (GW wr):=⟨⟨_,Below.refl _ _⟩⟩
    clear hc d0 d1 d2 d3 d4 d5 d6
    by_cases he:kcI x ki na p=0
    ·have hd:(orI (cmpI (x p).kind ki) (cmpI (x p).name na)==0)=true:=by simpa [kcI] using he
     have HE:=hid (show (decide (p<n)&&decide (kcI x ki na p=0))=true by simp [hpn,he])
     go_wp2
     refine wp_region_grow Zf Zf ?_
     repeat (go_big_quiet_step ((go_at_call 152;go_must (exact grow_of (placeCmp_any (x (p)) ah ch ki na _)))))
     refine wpQuiet_nil ?_
     rintro w2 ⟨u,hu⟩
     have hw2:Below wr.1.size wr w2:=hu▸u.prop
     clear hu u hne x0 x1 x2 x3 x4 x5 x6 y0 y1
     go_wp2
     refine bodyPost_ret (v:=.tuple #[.int .i64 p,.bool true]) (by simp [results,Tryz.results151,go_sem]) rfl ⟨p,Za,H1.out,H2.out,by rw [HE.out],hBw.trans (hw2.mono hBw.size)⟩
    ·have hd:(orI (cmpI (x p).kind ki) (cmpI (x p).name na)==0)=false:=by simpa [kcI] using he
     have HE:=hid (show (decide (p<n)&&decide (kcI x ki na p=0))=false by simp [he])
     go_wp2
     refine wp_region_grow Zf Zf ?_
     repeat (go_big_quiet_step ((go_at_call 152;go_must (exact grow_of (placeCmp_any (x (p)) ah ch ki na _)))))
     refine wpQuiet_nil ?_
     rintro w2 ⟨u,hu⟩
     have hw2:Below wr.1.size wr w2:=hu▸u.prop
     clear hu u hne x0 x1 x2 x3 x4 x5 x6 y0 y1
     exact apP159
   ·have hg:decide ((p:Int)<n)=false:=decide_eq_false Za
    have HE:=hid (show (decide (p<n)&&decide (kcI x ki na p=0))=false by simp [hpn])
    clear hc
    go_wp2
    have hne:Nonempty (GW wr):=⟨⟨_,Below.refl _ _⟩⟩
    refine wp_region_grow Zf Zf ?_
    repeat (go_big_quiet_step (fail))
    refine wpQuiet_nil ?_
    rintro w2 ⟨u,hu⟩
    have hw2:Below wr.1.size wr w2:=hu▸u.prop
    clear hu u hne
    exact apP159
theorem kcI_key (x:Nat→Ob) (z:Ob) (i:Nat):kcI x z.kind z.name i=keyI (x i) z:=by
 unfold kcI keyI orI cmpI
 cases h1:ltB (x i).kind z.kind with
 | true=>simp
 | false=>
  by_cases h2:(x i).kind.toList=z.kind.toList
  ·cases h3:ltB (x i).name z.name with
   | true=>simp [h2]
   | false=>
    by_cases h4:(x i).name.toList=z.name.toList<;>simp [h2,h4]
  ·simp [h2]
theorem ltB_trans_list:∀ {a b c:List UInt8},Op.bytesLess a b=true→Op.bytesLess b c=true→Op.bytesLess a c=true
 | [],_::_,[],_,h=>by simp [Op.bytesLess] at h
 | [],[],_,h,_=>by simp [Op.bytesLess] at h
 | [],_::_,_::_,_,_=>by simp [Op.bytesLess]
 | _::_,[],_,h,_=>by simp [Op.bytesLess] at h
 | _::_,_::_,[],_,h=>by simp [Op.bytesLess] at h
 | p::a,q::b,r::c,h1,h2=>by
  simp only [Op.bytesLess,Bool.or_eq_true,Bool.and_eq_true,decide_eq_true_eq,beq_iff_eq] at h1 h2 ⊢
  rcases h1 with h1|⟨h1,h1'⟩
  ·rcases h2 with h2|⟨h2,_⟩
   ·exact Or.inl (UInt8.lt_trans h1 h2)
   ·exact Or.inl (h2▸h1)
  ·rcases h2 with h2|⟨h2,h2'⟩
   ·exact Or.inl (h1▸h2)
   ·exact Or.inr ⟨h1.trans h2,ltB_trans_list h1' h2'⟩
theorem ltB_trans {a b c:ByteArray} (h1:ltB a b=true) (h2:ltB b c=true):ltB a c=true:=ltB_trans_list h1 h2
theorem placeOf_any (n:Nat) (x:Nat→Ob) (ad:Option Addr) (cap:Nat) (ki na:ByteArray) (w:World) (lo hi:Nat) (hhi:hi≤w.1.size) (hl:(n:Int)≤1099511627776) (hc:ObjsIn w lo hi ad n x) (hasc:∀ i j,i<j→j<n→kcI x ki na j<0→kcI x ki na i<0) :
  Calls Tryz.prog 96 #[.slice ad n cap,.agg #[.string ki,.string na]] w fun e w'=>∃ i:Nat,i≤n∧(∀ j,j<i→kcI x ki na j<0)∧(∀ j,i≤j→j<n→0≤kcI x ki na j)∧e=.returned (.tuple #[.int .i64 i,.bool (decide (i<n)&&decide (kcI x ki na i=0))])∧Below w.1.size w w':=by
 have HC:=hid (fun o=>hc.below (below_alloc w o) hhi)
 have HAS:=hid hasc
 clear hc hasc
 go_enter Tryz.func96,Tryz.ntmps96
 go_wp2_with fail
 refine (searchF_any n x ad cap ki na _ lo hi Zc hl (HC.out _) HAS.out).mono ?_
 rintro e w1 ⟨i,hi,h1,h2,rfl,hb⟩
 have H1:=hid h1
 have H2:=hid h2
 have B1:Below w.1.size w w1:=(below_alloc _ _).trans (hb.mono Zd)
 clear h1 h2 hb
 go_wp2
 refine bodyPost_ret (v:=.tuple #[.int .i64 i,.bool (decide (i<n)&&decide (kcI x ki na i=0))]) (by simp [results,Tryz.results96,go_sem]) rfl ⟨i,hi,H1.out,H2.out,rfl,B1⟩
end Go.Proofs.YtllmmkchokkaaaaGreatDoor
