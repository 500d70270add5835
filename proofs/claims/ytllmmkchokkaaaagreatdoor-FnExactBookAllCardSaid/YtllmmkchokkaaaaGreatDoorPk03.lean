import Derived.Test.YtllmmkchokkaaaaGreatDoorPk02
import Derived.Test.YtllmmkchokkaaaaGreatDoorPk01
set_option maxRecDepth 100000
set_option maxHeartbeats 800000
namespace Go.Proofs.YtllmmkchokkaaaaGreatDoor
open Go.RowKit
theorem three_cell {w w1:World} {c0 c1 c2:Array Value} {t0 t1 t2:TypeId} (hb:Below (((w.alloc (.cells c0 t0)).alloc (.cells c1 t1)).alloc (.cells c2 t2)).1.size (((w.alloc (.cells c0 t0)).alloc (.cells c1 t1)).alloc (.cells c2 t2)) w1) :
  (∀ i,w1.cell? ⟨w.1.size,i,none⟩=c0[i]?)∧(∀ i,w1.cell? ⟨w.1.size+1,i,none⟩=c1[i]?)∧(∀ i,w1.cell? ⟨w.1.size+1+1,i,none⟩=c2[i]?)∧(∀ i,w1.frozen? ⟨w.1.size+1,i,none⟩=false)∧(∀ i,w1.frozen? ⟨w.1.size+1+1,i,none⟩=false):=by
 refine ⟨fun i=>?_,fun i=>?_,fun i=>?_,fun i=>?_,fun i=>?_⟩
 ·rw [hb.cell (p:=⟨w.1.size,i,none⟩) Zc]
  rw [World.cell?_alloc_past _ _ _ Zm,World.cell?_alloc_past _ _ _ Zm,World.cell?_alloc_at _ _ _ _ rfl]
 ·rw [hb.cell (p:=⟨w.1.size+1,i,none⟩) Zd]
  rw [World.cell?_alloc_past _ _ _ Zd,World.cell?_alloc_at _ _ _ _ Zd]
 ·rw [hb.cell (p:=⟨w.1.size+1+1,i,none⟩) Zd]
  rw [World.cell?_alloc_at _ _ _ _ Zd]
 ·rw [hb.frozen (p:=⟨w.1.size+1,i,none⟩) Zd]
  rw [World.frozen?_alloc_past _ _ _ Zd,World.frozen?_alloc_at _ _ _ _ Zd]
 ·rw [hb.frozen (p:=⟨w.1.size+1+1,i,none⟩) Zd]
  rw [World.frozen?_alloc_at _ _ _ _ Zd]
theorem ObjsOwnAt.fr {w w':World} {g hi n m lo2 hi2:Nat} {x:Nat→Ob} {r:Nat→Nat} (h:ObjsOwnAt w g hi n m x r) (hb:Fr lo2 hi2 w w') (ho:hi≤lo2∨hi2≤g):ObjsOwnAt w' g hi n m x r:=by
 have hg:g<hi:=Nat.lt_of_lt_of_le h.r0 (Nat.le_trans (r_mono h.mono Zbw Zbt) h.rn)
 have hc:∀ j,w'.cell? ⟨g,j,none⟩=w.cell? ⟨g,j,none⟩:=fun j=>hb.cell (p:=⟨g,j,none⟩) (Nat.lt_of_lt_of_le hg h.hi) (by show g<_∨_≤g;omega)
 refine ⟨⟨fun j hj=>?_,fun j=>(hb.frozen (p:=⟨g,j,none⟩) (Nat.lt_of_lt_of_le hg h.hi) (by show g<_∨_≤g;omega)).trans (h.room.free j),Nat.lt_of_lt_of_le h.room.lt hb.size⟩,h.r0,h.mono,h.rn,Nat.le_trans h.hi hb.size,fun i hi'=>?_⟩
 ·obtain ⟨u,hu⟩:=h.room.has j hj;exact ⟨u,(hc j).trans hu⟩
 ·obtain ⟨ah,ch,c,s,cg⟩:=h.at_ i hi'
  have h1:r (i+1)≤hi:=Nat.le_trans (r_mono h.mono Za Zbt) h.rn
  have h2:g<r i:=Nat.lt_of_lt_of_le h.r0 (r_mono h.mono Zbw Za)
  exact ⟨ah,ch,c.fr (fun j _=>hc _),s.fr hb (Nat.le_trans h1 h.hi) Za,cg.grow hb.size⟩
theorem ChgsOwnAt.fr {w w':World} {g hi n m lo2 hi2:Nat} {x:Nat→Ch} {r:Nat→Nat} (h:ChgsOwnAt w g hi n m x r) (hb:Fr lo2 hi2 w w') (ho:hi≤lo2∨hi2≤g):ChgsOwnAt w' g hi n m x r:=by
 have hg:g<hi:=Nat.lt_of_lt_of_le h.r0 (Nat.le_trans (r_mono h.mono Zbw Zbt) h.rn)
 have hc:∀ j,w'.cell? ⟨g,j,none⟩=w.cell? ⟨g,j,none⟩:=fun j=>hb.cell (p:=⟨g,j,none⟩) (Nat.lt_of_lt_of_le hg h.hi) (by show g<_∨_≤g;omega)
 refine ⟨⟨fun j hj=>?_,fun j=>(hb.frozen (p:=⟨g,j,none⟩) (Nat.lt_of_lt_of_le hg h.hi) (by show g<_∨_≤g;omega)).trans (h.room.free j),Nat.lt_of_lt_of_le h.room.lt hb.size⟩,h.r0,h.mono,h.rn,Nat.le_trans h.hi hb.size,fun i hi'=>?_⟩
 ·obtain ⟨u,hu⟩:=h.room.has j hj;exact ⟨u,(hc j).trans hu⟩
 ·obtain ⟨ah,ch,c,s⟩:=h.at_ i hi'
  have h1:r (i+1)≤hi:=Nat.le_trans (r_mono h.mono Za Zbt) h.rn
  have h2:g<r i:=Nat.lt_of_lt_of_le h.r0 (r_mono h.mono Zbw Za)
  exact ⟨ah,ch,c.fr (fun j _=>hc _),s.fr hb (Nat.le_trans h1 h.hi) Za⟩
theorem TicsOwnAt.fr {w w':World} {g n m lo2 hi2:Nat} {x:Nat→Ti} (h:TicsOwnAt w g n m x) (hb:Fr lo2 hi2 w w') (ho:g<lo2∨hi2≤g):TicsOwnAt w' g n m x:=by
 have hc:∀ j,w'.cell? ⟨g,j,none⟩=w.cell? ⟨g,j,none⟩:=fun j=>hb.cell (p:=⟨g,j,none⟩) h.room.lt ho
 refine ⟨⟨fun j hj=>?_,fun j=>(hb.frozen (p:=⟨g,j,none⟩) h.room.lt ho).trans (h.room.free j),Nat.lt_of_lt_of_le h.room.lt hb.size⟩,fun i hi'=>?_⟩
 ·obtain ⟨u,hu⟩:=h.room.has j hj;exact ⟨u,(hc j).trans hu⟩
 ·have c:=h.at_ i hi'
  exact ⟨(hc _).trans c.c0,(hc _).trans c.c1,(hc _).trans c.c2,(hc _).trans c.c3,(hc _).trans c.c4⟩
structure BkOwn (w:World) (lo hi:Nat) (x:Bk) (g1 g2 g3:Nat):Prop where
 ob:∃ h1 r1,ObjsOwnAt w g1 h1 x.on x.on x.os r1∧h1≤g2
 ch:∃ h2 r2,ChgsOwnAt w g2 h2 x.hn x.hn x.hs r2∧h2≤g3
 ti:TicsOwnAt w g3 x.tn x.tn x.ts
 glo:lo≤g1
 ghi:g3<hi
 gtop:hi≤w.1.size
theorem after_call {w1 w2:World} {a:Addr} {v:Value} (hb:Below (w1.setCell a v).1.size (w1.setCell a v) w2) {p:Addr} (hp:p.block<w1.1.size) (hne:a≠p):w2.cell? p=w1.cell? p:=
 (hb.cell (by rw [World.size_setCell];exact hp)).trans (World.cell?_setCell_other _ _ _ _ hne)
theorem after_call_same {w1 w2:World} {a:Addr} {v u:Value} (hb:Below (w1.setCell a v).1.size (w1.setCell a v) w2) (hp:a.block<w1.1.size) (hu:w1.cell? a=some u):w2.cell? a=some v:=
 (hb.cell (by rw [World.size_setCell];exact hp)).trans (World.cell?_setCell_same _ _ _ hu)
theorem after_call_frozen {w1 w2:World} {a:Addr} {v:Value} (hb:Below (w1.setCell a v).1.size (w1.setCell a v) w2) {p:Addr} (hp:p.block<w1.1.size):w2.frozen? p=w1.frozen? p:=
 (hb.frozen (by rw [World.size_setCell];exact hp)).trans (World.frozen?_setCell _ _ _ _)
theorem toBk_any (x:Bk) (a1 a2 a3:Option Addr) (c1 c2 c3:Nat) (w:World) (lo hi:Nat) (hhi:hi≤w.1.size) (hf:BkFit x) (hc:BkIn w lo hi x a1 a2 a3) :
  Calls Tryz.prog 9 #[.agg #[.int .i64 x.now,.int .i64 x.floor,.slice a1 x.on c1,.slice a2 x.hn c2,.slice a3 x.tn c3]] w fun e w'=>∃ g1 g2 g3 d1 d2 d3,e=.returned (.agg #[.int .i64 x.now,.int .i64 x.floor,.slice (some ⟨g1,0,none⟩) x.on d1,.slice (some ⟨g2,0,none⟩) x.hn d2,.slice (some ⟨g3,0,none⟩) x.tn d3])∧(x.on≤d1∧x.hn≤d2)∧BkOwn w' w.1.size w'.1.size x g1 g2 g3∧Below w.1.size w w':=by
 obtain ⟨f1,f2,f3,f4,f5,f6⟩:=hf
 go_enter Tryz.func9,Tryz.ntmps9
 go_wp2_with fail
 refine (toObs_any x.on x.os a1 c1 _ lo hi Zc Za f4 (hc.o.below (B:=w.1.size) ((((Below.refl _ _).alloc Zbt _).alloc Zd _).alloc Zc _) hhi)).mono ?_
 rintro e w1 ⟨d1,r1,rfl,hcd1,ho1,hb1⟩
 have HCD1:=hid hcd1
 clear hcd1
 have hB1:Below w.1.size w w1:=((((Below.refl _ _).alloc Zbt _).alloc Zd _).alloc Zc _).trans (hb1.mono Zc)
 have hz1:w.1.size+2<w1.1.size:=by have:=hb1.size;simp at this;omega
 obtain ⟨A0,A1,A2,F1,F2⟩:=three_cell hb1
 have b3:=A0 3
 have b4:=A0 4
 have p0:=A1 0
 have p1:=A1 1
 have p2:=A1 2
 have p3:=A1 3
 have p4:=A1 4
 have o0:=A2 0
 have o1:=A2 1
 have o2:=A2 2
 have o3:=A2 3
 have o4:=A2 4
 simp only [List.getElem?_toArray,List.getElem?_cons_succ,List.getElem?_cons_zero] at b3 b4 p0 p1 p2 p3 p4 o0 o1 o2 o3 o4
 simp only [World.size_alloc] at ho1 ⊢
 clear A0 A1 A2 hb1
 have HO1:=hid ho1
 clear ho1
 go_wp2_with fail
 refine (toChs_any x.hn x.hs a2 c2 _ lo hi (by rw [World.size_setCell];have:=hB1.size;omega) Za f5 (hc.h.below (B:=w.1.size) (hB1.setCell Zbj _) hhi)).mono ?_
 rintro e w2 ⟨d2,r2,rfl,hcd2,ho2,hb2⟩
 have HCD2:=hid hcd2
 clear hcd2
 have hz2:w1.1.size<w2.1.size:=by have:=ho2.room.lt;rw [World.size_setCell] at this;exact this
 have hB2:Below w.1.size w w2:=(hB1.setCell (p:=⟨w.1.size+1+1,2,none⟩) Zbj _).trans (hb2.mono (by rw [World.size_setCell];omega))
 have b4':=(after_call hb2 (p:=⟨w.1.size,4,none⟩) Zh Zd).trans b4
 have p0':=(after_call hb2 (p:=⟨w.1.size+1,0,none⟩) Zab Zd).trans p0
 have p1':=(after_call hb2 (p:=⟨w.1.size+1,1,none⟩) Zab Zd).trans p1
 have p2':=(after_call hb2 (p:=⟨w.1.size+1,2,none⟩) Zab Zd).trans p2
 have p3':=(after_call hb2 (p:=⟨w.1.size+1,3,none⟩) Zab Zd).trans p3
 have p4':=(after_call hb2 (p:=⟨w.1.size+1,4,none⟩) Zab Zd).trans p4
 have o0':=(after_call hb2 (p:=⟨w.1.size+1+1,0,none⟩) Zo Zd).trans o0
 have o1':=(after_call hb2 (p:=⟨w.1.size+1+1,1,none⟩) Zo Zd).trans o1
 have o2':=after_call_same hb2 Zo o2
 have o3':=(after_call hb2 (p:=⟨w.1.size+1+1,3,none⟩) Zo Zd).trans o3
 have o4':=(after_call hb2 (p:=⟨w.1.size+1+1,4,none⟩) Zo Zd).trans o4
 have F1':∀ i,w2.frozen? ⟨w.1.size+1,i,none⟩=false:=fun i=>(after_call_frozen hb2 (p:=⟨w.1.size+1,i,none⟩) Zab).trans (F1 i)
 have F2':∀ i,w2.frozen? ⟨w.1.size+1+1,i,none⟩=false:=fun i=>(after_call_frozen hb2 (p:=⟨w.1.size+1+1,i,none⟩) Zo).trans (F2 i)
 have HO1b:=hid ((HO1.out.fr ((Fr.refl (w.1.size+2) (w.1.size+3) w1).setCell (p:=⟨w.1.size+1+1,2,none⟩) (by show w.1.size+2≤w.1.size+1+1;omega) Zo (.slice (some ⟨w.1.size+1+1+1,0,none⟩) x.on d1)) (Or.inr Za)).fr (Fr.of_below (lo:=0) (hi:=0) hb2) (Or.inr Zbw))
 rw [World.size_setCell] at ho2 ⊢
 have HO2:=hid ho2
 clear ho2 HO1 hb2 b3 b4 p0 p1 p2 p3 p4 o0 o1 o2 o3 o4 F1 F2 hB1
 go_wp2_with fail
 refine (toTis_any x.tn x.ts a3 c3 _ lo hi (by rw [World.size_setCell];have:=hB2.size;omega) Za (hc.t.below (B:=w.1.size) (hB2.setCell Zbj _) hhi)).mono ?_
 rintro e w3 ⟨d3,rfl,ho3,hb3⟩
 have hz3:w2.1.size<w3.1.size:=by have:=ho3.room.lt;rw [World.size_setCell] at this;exact this
 have hB3:Below w.1.size w w3:=(hB2.setCell (p:=⟨w.1.size+1+1,3,none⟩) Zbj _).trans (hb3.mono (by rw [World.size_setCell];omega))
 have p0:=(after_call hb3 (p:=⟨w.1.size+1,0,none⟩) Zab Zd).trans p0'
 have p1:=(after_call hb3 (p:=⟨w.1.size+1,1,none⟩) Zab Zd).trans p1'
 have p2:=(after_call hb3 (p:=⟨w.1.size+1,2,none⟩) Zab Zd).trans p2'
 have p3:=(after_call hb3 (p:=⟨w.1.size+1,3,none⟩) Zab Zd).trans p3'
 have p4:=(after_call hb3 (p:=⟨w.1.size+1,4,none⟩) Zab Zd).trans p4'
 have o0:=(after_call hb3 (p:=⟨w.1.size+1+1,0,none⟩) Zo Zd).trans o0'
 have o1:=(after_call hb3 (p:=⟨w.1.size+1+1,1,none⟩) Zo Zd).trans o1'
 have o2:=(after_call hb3 (p:=⟨w.1.size+1+1,2,none⟩) Zo Zd).trans o2'
 have o3:=after_call_same hb3 Zo o3'
 have o4:=(after_call hb3 (p:=⟨w.1.size+1+1,4,none⟩) Zo Zd).trans o4'
 have F1:∀ i,w3.frozen? ⟨w.1.size+1,i,none⟩=false:=fun i=>(after_call_frozen hb3 (p:=⟨w.1.size+1,i,none⟩) Zab).trans (F1' i)
 have F2:∀ i,w3.frozen? ⟨w.1.size+1+1,i,none⟩=false:=fun i=>(after_call_frozen hb3 (p:=⟨w.1.size+1+1,i,none⟩) Zo).trans (F2' i)
 have hS:=(Fr.refl (w.1.size+2) (w.1.size+3) w2).setCell (p:=⟨w.1.size+1+1,3,none⟩) (by show w.1.size+2≤w.1.size+1+1;omega) Zo (.slice (some ⟨w1.1.size,0,none⟩) x.hn d2)
 have HO1:=hid ((HO1b.out.fr hS (Or.inr Za)).fr (Fr.of_below (lo:=0) (hi:=0) hb3) (Or.inr Zbw))
 have HO2b:=hid ((HO2.out.fr hS (Or.inr Za)).fr (Fr.of_below (lo:=0) (hi:=0) hb3) (Or.inr Zbw))
 rw [World.size_setCell] at ho3 ⊢
 have HO3:=hid ho3
 clear ho3 HO1b HO2 hb3 p0' p1' p2' p3' p4' o0' o1' o2' o3' o4' F1' F2' hB2 b4' hS hc f4 f5 f6
 go_wp2
 refine bodyPost_ret (v:=.agg #[.int .i64 x.now,.int .i64 x.floor,.slice (some ⟨w.1.size+1+1+1,0,none⟩) x.on d1,.slice (some ⟨w1.1.size,0,none⟩) x.hn d2,.slice (some ⟨w2.1.size,0,none⟩) x.tn d3]) (by simp [results,Tryz.results9,go_sem,p0,p1,p2,p3,p4]) rfl ⟨_,_,_,d1,d2,d3,rfl,⟨HCD1.out,HCD2.out⟩,?_,?_⟩
 ·have hT:Fr w.1.size (w.1.size+3) w3 (((((((w3.setCell ⟨w.1.size+1+1,4,none⟩ (.slice (some ⟨w2.1.size,0,none⟩) x.tn d3)).setCell ⟨w.1.size+1,0,none⟩ (.int .i64 x.now)).setCell ⟨w.1.size+1,1,none⟩ (.int .i64 x.floor)).setCell ⟨w.1.size+1,2,none⟩ (.slice (some ⟨w.1.size+1+1+1,0,none⟩) x.on d1)).setCell ⟨w.1.size+1,3,none⟩ (.slice (some ⟨w1.1.size,0,none⟩) x.hn d2)).setCell ⟨w.1.size+1,4,none⟩ (.slice (some ⟨w2.1.size,0,none⟩) x.tn d3))):=by
   iterate 6 refine Fr.setCell ?_ Zm Zm _
   exact Fr.refl _ _ _
  simp only [World.size_setCell]
  exact ⟨⟨_,_,HO1.out.fr hT (Or.inr Za),Nat.le_refl _⟩,⟨_,_,HO2b.out.fr hT (Or.inr Za),Nat.le_refl _⟩,HO3.out.fr hT (Or.inr Za),Za,hz3,hT.size⟩
 ·refine hB3.trans (Fr.below (lo:=w.1.size) (hi:=w.1.size+3) ?_ Zbt hB3.size)
  iterate 6 refine Fr.setCell ?_ Zm Zm _
  exact Fr.refl _ _ _
structure FrP (P:Nat→Prop) (w w':World):Prop where
 os:w'.os=w.os
 tape:w'.tape=w.tape
 output:w'.output=w.output
 size:w.1.size≤w'.1.size
 block:∀ k,k<w.1.size→¬P k→w'.heap[k]? = w.heap[k]?
theorem FrP.refl (P:Nat→Prop) (w:World):FrP P w w:=⟨rfl,rfl,rfl,Nat.le_refl _,fun _ _ _=>rfl⟩
theorem FrP.trans {P:Nat→Prop} {a b c:World} (h:FrP P a b) (k:FrP P b c):FrP P a c:=
 ⟨k.os.trans h.os,k.tape.trans h.tape,k.output.trans h.output,Nat.le_trans h.size k.size,fun i hi ho=>(k.block i (Nat.lt_of_lt_of_le hi h.size) ho).trans (h.block i hi ho)⟩
theorem FrP.of_below {P:Nat→Prop} {w w':World} (h:Below w.1.size w w'):FrP P w w':=⟨h.os,h.tape,h.output,h.size,fun i hi _=>h.block i hi⟩
theorem FrP.mono {P Q:Nat→Prop} {w w':World} (h:FrP P w w') (e:∀ k,P k→Q k):FrP Q w w':=⟨h.os,h.tape,h.output,h.size,fun i hi hq=>h.block i hi (fun hp=>hq (e i hp))⟩
theorem FrP.setCell {P:Nat→Prop} {a w:World} (h:FrP P a w) {p:Addr} (hp:P p.block) (u:Value):FrP P a (w.setCell p u):=
 h.trans ⟨rfl,rfl,rfl,by simp [World.setCell],fun k _ ho=>Below.heap_setCell _ _ _ _ (fun e=>ho (e▸hp))⟩
theorem FrP.cell {P:Nat→Prop} {w w':World} (h:FrP P w w') {p:Addr} (hp:p.block<w.1.size) (ho:¬P p.block):w'.cell? p=w.cell? p:=World.cell?_of_block (w:=w) (h.block p.block hp ho)
theorem FrP.frozen {P:Nat→Prop} {w w':World} (h:FrP P w w') {p:Addr} (hp:p.block<w.1.size) (ho:¬P p.block):w'.frozen? p=w.frozen? p:=World.frozen?_of_block (w:=w) (h.block p.block hp ho)
theorem FrP.below {P:Nat→Prop} {w w':World} (h:FrP P w w') {B:Nat} (hB:∀ k,k<B→¬P k) (hs:B≤w.1.size):Below B w w':=⟨h.os,h.tape,h.output,h.size,fun k hk=>h.block k Za (hB k hk)⟩
theorem FrP.of_fr {P:Nat→Prop} {lo hi:Nat} {w w':World} (h:Fr lo hi w w') (e:∀ k,lo≤k→k<hi→P k):FrP P w w':=⟨h.os,h.tape,h.output,h.size,fun k hk ho=>h.block k hk (by
 rcases Nat.lt_or_ge k lo with h1|h1
 ·exact Or.inl h1
 ·rcases Nat.lt_or_ge k hi with h2|h2
  ·exact absurd (e k h1 h2) ho
  ·exact Or.inr h2)⟩
theorem FrP.link {P Q:Nat→Prop} {a b c:World} (h:FrP P a b) (_:FrP Q b c):FrP P a b:=h
structure RowF (w:World) (g m:Nat) (c:Nat→Value):Prop where
 lt:g<w.1.size
 free:∀ j,w.frozen? ⟨g,j,none⟩=false
 cell:∀ j,j<m→w.cell? ⟨g,j,none⟩=some (c j)
def setF (c:Nat→Value) (o:Nat) (v:Value):Nat→Value:=fun j=>if j=o then v else c j
theorem RowF.set {w:World} {g m:Nat} {c:Nat→Value} (h:RowF w g m c) {o:Nat} (ho:o<m) (v:Value):RowF (w.setCell ⟨g,o,none⟩ v) g m (setF c o v):=
 ⟨by rw [World.size_setCell];exact h.lt,fun j=>by rw [World.frozen?_setCell];exact h.free j,fun j hj=>by
  unfold setF
  by_cases e:j=o
  ·subst e;rw [if_pos rfl];exact World.cell?_setCell_same _ _ _ (h.cell j hj)
  ·rw [if_neg e,World.cell?_setCell_other _ _ _ _ (fun q=>e (by injection q with _ q2;exact q2.symm))];exact h.cell j hj⟩
theorem RowF.below {w w':World} {g m B:Nat} {c:Nat→Value} (h:RowF w g m c) (hb:Below B w w') (hB:g<B):RowF w' g m c:=
 ⟨Nat.lt_of_lt_of_le h.lt hb.size,fun j=>(hb.frozen (p:=⟨g,j,none⟩) hB).trans (h.free j),fun j hj=>(hb.cell (p:=⟨g,j,none⟩) hB).trans (h.cell j hj)⟩
theorem RowF.fr {w w':World} {g m:Nat} {c:Nat→Value} {P:Nat→Prop} (h:RowF w g m c) (hb:FrP P w w') (hg:¬P g):RowF w' g m c:=
 ⟨Nat.lt_of_lt_of_le h.lt hb.size,fun j=>(hb.frozen (p:=⟨g,j,none⟩) h.lt hg).trans (h.free j),fun j hj=>(hb.cell (p:=⟨g,j,none⟩) h.lt hg).trans (h.cell j hj)⟩
theorem StrsOwn.frP {w w':World} {b:Nat} {ad:Option Addr} {n:Nat} {s:Nat→ByteArray} {P:Nat→Prop} (h:StrsOwn w b (b+1) ad n s) (hb:FrP P w w') (hn:n≠0→¬P b∧b<w.1.size):StrsOwn w' b (b+1) ad n s:=fun i hi=>by
 obtain ⟨q,off,e1,e2,e3,e4,e5⟩:=h i hi
 have:q=b:=Za
 subst this
 obtain ⟨h1,h2⟩:=hn Za
 exact ⟨q,off,e1,e2,e3,(hb.cell (p:=⟨q,off+i,none⟩) h2 h1).trans e4,(hb.frozen (p:=⟨q,off+i,none⟩) h2 h1).trans e5⟩
theorem markText_at (k:Int) (m:Nat) (hk:k=m) (w:World) (h1:1≤k) (h2:k≤1099511627776) :
  Calls Tryz.prog 107 #[.int .i64 k] w fun e w'=>e=.returned (.string (mt m))∧Below w.1.size w w':=by
 subst hk
 exact markText_any m w h1 h2
theorem markStrs_own (n:Nat) (s:Nat→ByteArray) (ad:Option Addr) (cap:Nat) (k:Int) (m:Nat) (hk:k=m) (w:World) (b:Nat) (hlt:n≠0→b<w.1.size) (hl:(n:Int)≤1073741824) (hk1:1≤k) (hk2:k≤1073741824)
  (hc:StrsOwn w b (b+1) ad n s) :
  Calls Tryz.prog 108 #[.slice ad n cap,.int .i64 k] w fun e w'=>e=.returned (.int .i64 (k+n))∧StrsOwn w' b (b+1) ad n (fun i=>mt (m+i))∧FrP (fun q=>n≠0∧q=b) w w':=by
 subst hk
 by_cases h0:n=0
 ·subst h0
  exact (markStrs_any 0 s ad cap m w 0 0 Zbw hl hk1 hk2 (fun i hi=>absurd hi (Nat.not_lt_zero _))).mono fun e w' ⟨e1,_,e3⟩=>⟨e1,fun i hi=>absurd hi (Nat.not_lt_zero _),FrP.of_fr e3 (fun k h1 h2=>absurd h2 (Nat.not_lt_zero _))⟩
 ·exact (markStrs_any n s ad cap m w b (b+1) (hlt h0) hl hk1 hk2 hc).mono fun e w' ⟨e1,e2,e3⟩=>⟨e1,e2,FrP.of_fr e3 (fun k h1 h2=>⟨h0,Za⟩)⟩
theorem heldStrs_own (n:Nat) (ad:Option Addr) (cap:Nat) (k:Int) (m:Nat) (hk:k=m) (w:World) (b:Nat) (hlt:n≠0→b<w.1.size) (hl:(n:Int)≤1073741824) (hk1:1≤k) (hk2:k≤1073741824)
  (hc:StrsOwn w b (b+1) ad n (fun i=>mt (m+i))) :
  Calls Tryz.prog 124 #[.slice ad n cap,.int .i64 k] w fun e w'=>e=.returned (.int .i64 (k+n))∧Below w.1.size w w':=by
 subst hk
 by_cases h0:n=0
 ·subst h0
  exact heldStrs_any 0 ad cap m w 0 0 Zbw hl hk1 hk2 (fun i hi=>absurd hi (Nat.not_lt_zero _))
 ·exact heldStrs_any n ad cap m w b (b+1) (hlt h0) hl hk1 hk2 hc
structure ApartH (g n:Nat) (N:Nat→Nat) (hb:Nat→Nat):Prop where
 ne:∀ i,i<n→N i≠0→hb i≠g
 inj:∀ i j,i<n→j<n→N i≠0→N j≠0→hb i=hb j→i=j
theorem ApartH.congr {g n:Nat} {N N':Nat→Nat} {hb:Nat→Nat} (h:ApartH g n N hb) (e:∀ i,N i=N' i):ApartH g n N' hb:=by
 have:N=N':=funext e
 subst this;exact h
theorem rem3 {a b:Int} (h:a=b):(a % 3==0)=decide (b % 3=0):=by subst h;rfl
def blkH (g n:Nat) (N:Nat→Nat) (hb:Nat→Nat) (k:Nat):Prop:=(0<n∧k=g)∨∃ i,i<n∧N i≠0∧k=hb i
end Go.Proofs.YtllmmkchokkaaaaGreatDoor
