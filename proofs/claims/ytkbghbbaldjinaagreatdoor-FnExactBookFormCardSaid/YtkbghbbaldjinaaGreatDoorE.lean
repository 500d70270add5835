import Derived.Test.YtkbghbbaldjinaaGreatDoorD
namespace Go.Proofs.YtkbghbbaldjinaaGreatDoor
open Go.RowKit
theorem bcell {W w1 : World} (hb : Below W.heap.size W w1) : (∀ b o, b < W.heap.size → w1.cell? ⟨b, o, none⟩ = W.cell? ⟨b, o, none⟩) ∧ (∀ b o, b < W.heap.size → w1.frozen? ⟨b, o, none⟩ = W.frozen? ⟨b, o, none⟩) :=
  ⟨fun b o h => hb.cell (p := ⟨b, o, none⟩) h, fun b o h => hb.frozen (p := ⟨b, o, none⟩) h⟩
structure Bk where
  now : Int
  floor : Int
  on : Nat
  os : Nat → Ob
  hn : Nat
  hs : Nat → Ch
  tn : Nat
  ts : Nat → Ti
structure BkFit (x : Bk) : Prop where
  o : (x.on : Int) ≤ 1099511627776
  h : (x.hn : Int) ≤ 1099511627776
  t : (x.tn : Int) ≤ 1099511627776
  os : ∀ i, i < x.on → ObFit (x.os i)
  hs : ∀ i, i < x.hn → ObFit (x.hs i).ob
  ts : ∀ i, i < x.tn → TiFit (x.ts i)
/-- as the arguments are read: no more than that -/
structure BkFit0 (x : Bk) : Prop where
  o : (x.on : Int) ≤ 8796093022208
  h : (x.hn : Int) ≤ 8796093022208
  t : (x.tn : Int) ≤ 8796093022208
  os : ∀ i, i < x.on → ObFit (x.os i)
  hs : ∀ i, i < x.hn → ObFit (x.hs i).ob
  ts : ∀ i, i < x.tn → TiFit (x.ts i)
def szBk (x : Bk) : Nat := szObs x.on x.os + szChs x.hn x.hs + szTis x.tn x.ts
structure BkIn (w : World) (lo hi : Nat) (x : Bk) (a1 a2 a3 : Option Addr) : Prop where
  o : ObjsIn w lo hi a1 x.on x.os
  h : ChgsIn w lo hi a2 x.hn x.hs
  t : TicsIn w lo hi a3 x.tn x.ts
theorem ObCells.below {w w' : World} {B b o : Nat} {x : Ob} {ad : Option Addr} {cap : Nat} (h : ObCells w b o x ad cap) (hb : Below B w w') (hB : b < B) : ObCells w' b o x ad cap :=
  have e : ∀ j, w'.cell? ⟨b, j, none⟩ = w.cell? ⟨b, j, none⟩ := fun j => hb.cell (p := ⟨b, j, none⟩) hB
  ⟨(e _).trans h.c0, (e _).trans h.c1, (e _).trans h.c2, (e _).trans h.c3, (e _).trans h.c4, (e _).trans h.c5, (e _).trans h.c6⟩
theorem ChCells.below {w w' : World} {B b o : Nat} {x : Ch} {ad : Option Addr} {cap : Nat} (h : ChCells w b o x ad cap) (hb : Below B w w') (hB : b < B) : ChCells w' b o x ad cap :=
  have e : ∀ j, w'.cell? ⟨b, j, none⟩ = w.cell? ⟨b, j, none⟩ := fun j => hb.cell (p := ⟨b, j, none⟩) hB
  ⟨(e _).trans h.c0, (e _).trans h.c1, (e _).trans h.c2, (e _).trans h.c3, (e _).trans h.c4, (e _).trans h.c5, (e _).trans h.c6, (e _).trans h.c7, (e _).trans h.c8⟩
theorem TiCells.below {w w' : World} {B b o : Nat} {x : Ti} (h : TiCells w b o x) (hb : Below B w w') (hB : b < B) : TiCells w' b o x :=
  have e : ∀ j, w'.cell? ⟨b, j, none⟩ = w.cell? ⟨b, j, none⟩ := fun j => hb.cell (p := ⟨b, j, none⟩) hB
  ⟨(e _).trans h.c0, (e _).trans h.c1, (e _).trans h.c2, (e _).trans h.c3, (e _).trans h.c4⟩
theorem ObjsIn.below {w w' : World} {B lo hi : Nat} {ad : Option Addr} {n : Nat} {x : Nat → Ob} (h : ObjsIn w lo hi ad n x) (hb : Below B w w') (hB : hi ≤ B) : ObjsIn w' lo hi ad n x := fun i hi' => by
  obtain ⟨b, off, ah, ch, e1, e2, e3, e4, e5⟩ := h i hi'
  exact ⟨b, off, ah, ch, e1, e2, e3, e4.below hb (by omega), e5.below hb hB⟩
theorem ChgsIn.below {w w' : World} {B lo hi : Nat} {ad : Option Addr} {n : Nat} {x : Nat → Ch} (h : ChgsIn w lo hi ad n x) (hb : Below B w w') (hB : hi ≤ B) : ChgsIn w' lo hi ad n x := fun i hi' => by
  obtain ⟨b, off, ah, ch, e1, e2, e3, e4, e5⟩ := h i hi'
  exact ⟨b, off, ah, ch, e1, e2, e3, e4.below hb (by omega), e5.below hb hB⟩
theorem TicsIn.below {w w' : World} {B lo hi : Nat} {ad : Option Addr} {n : Nat} {x : Nat → Ti} (h : TicsIn w lo hi ad n x) (hb : Below B w w') (hB : hi ≤ B) : TicsIn w' lo hi ad n x := fun i hi' => by
  obtain ⟨b, off, e1, e2, e3, e4⟩ := h i hi'
  exact ⟨b, off, e1, e2, e3, e4.below hb (by omega)⟩
theorem BkIn.below {w w' : World} {B lo hi : Nat} {x : Bk} {a1 a2 a3 : Option Addr} (h : BkIn w lo hi x a1 a2 a3) (hb : Below B w w') (hB : hi ≤ B) : BkIn w' lo hi x a1 a2 a3 := ⟨h.o.below hb hB, h.h.below hb hB, h.t.below hb hB⟩
theorem below_alloc (w : World) (o : Obj) : Below w.heap.size w (w.alloc o) := (Below.refl _ _).alloc (Nat.le_refl _) o
theorem szOut_le {l : Int} {s : Nat} (h : 0 ≤ l) : szOut l s ≤ l := by unfold szOut; split <;> omega
theorem box_cell {w w1 : World} {c : Array Value} {t : TypeId} (hb : Below (w.alloc (.cells c t)).heap.size (w.alloc (.cells c t)) w1) (i : Nat) : w1.cell? ⟨w.heap.size, i, none⟩ = c[i]? :=
  (hb.cell (p := ⟨w.heap.size, i, none⟩) (by simp)).trans (World.cell?_alloc_new w c t i)
set_option maxRecDepth 100000 in
set_option maxHeartbeats 400000 in
theorem szBk_any (x : Bk) (a1 a2 a3 : Option Addr) (c1 c2 c3 : Nat) (left : Int) (w : World) (h0 : 0 ≤ left) (h1 : left ≤ 1048576) (lo hi : Nat) (hhi : hi ≤ w.heap.size) (hf : BkFit0 x) (hc : BkIn w lo hi x a1 a2 a3) :
    Calls Tryz.prog 4 #[.agg #[.int .i64 x.now, .int .i64 x.floor, .slice a1 x.on c1, .slice a2 x.hn c2, .slice a3 x.tn c3], .int .i64 left] w fun e w' => e = .returned (.int .i64 (szOut left (szBk x))) ∧ Below w.heap.size w w' := by
  obtain ⟨f1, f2, f3, f4, f5, f6⟩ := hf
  have hc1 := hc.below (below_alloc w (.cells #[.int .i64 x.now, .int .i64 x.floor, .slice a1 x.on c1, .slice a2 x.hn c2, .slice a3 x.tn c3] 26)) hhi
  clear hc
  unfold szBk
  go_enter Tryz.func4, Tryz.ntmps4
  go_wp2_with (first | (go_at_call 9; refine (szObs_any x.on x.os a1 c1 left _ lo hi (by simp; omega) (by omega) h0 h1 f4 hc1.o).mono ?_; rintro e w1 ⟨rfl, hb1⟩; have k3 := box_cell hb1 3; simp only [List.getElem?_toArray, List.getElem?_cons_succ, List.getElem?_cons_zero] at k3) | (go_at_call 10; refine (szChs_any x.hn x.hs a2 c2 _ _ lo hi (Nat.le_trans (by simp; omega) hb1.size) (by omega) (by assumption) (by have := szOut_ge (by assumption); omega) f5 (hc1.h.below hb1 (by simp; omega))).mono ?_; rintro e w2 ⟨rfl, hb2⟩; have hb12 := hb1.trans (hb2.mono hb1.size); have k4 := box_cell hb12 4; simp only [List.getElem?_toArray, List.getElem?_cons_succ, List.getElem?_cons_zero] at k4) | (go_at_call 11; refine (szTis_any x.tn x.ts a3 c3 _ _ lo hi (Nat.le_trans (by simp; omega) hb12.size) (by omega) (by assumption) (by have a1 := szOut_le (s := szObs x.on x.os) h0; have a2 := szOut_le (l := szOut left (szObs x.on x.os)) (s := szChs x.hn x.hs) (by assumption); omega) f6 (hc1.t.below hb12 (by simp; omega))).mono ?_; rintro e w3 ⟨rfl, hb3⟩))
  · go_ret
    exact ⟨ret_int (szOut_no (by have := szOut_lt (by assumption); omega)).symm, (below_alloc _ _).trans (hb1.mono (by simp))⟩
  · go_ret
    obtain ⟨g1, g2⟩ := szOut_ge (l := left) (by assumption)
    exact ⟨ret_int (szOut_no (by have := szOut_lt (by assumption); omega)).symm, (below_alloc _ _).trans (hb12.mono (by simp))⟩
  · go_ret
    obtain ⟨g1, g2⟩ := szOut_ge (l := left) (by assumption)
    obtain ⟨g3, g4⟩ := szOut_ge (l := szOut left (szObs x.on x.os)) (by assumption)
    exact ⟨ret_int (szOut_no (by have := szOut_lt (by assumption); omega)).symm, (below_alloc _ _).trans ((hb12.trans (hb3.mono hb12.size)).mono (by simp))⟩
  · go_ret
    obtain ⟨g1, g2⟩ := szOut_ge (l := left) (by assumption)
    obtain ⟨g3, g4⟩ := szOut_ge (l := szOut left (szObs x.on x.os)) (by assumption)
    obtain ⟨g5, g6⟩ := szOut_ge (l := szOut (szOut left (szObs x.on x.os)) (szChs x.hn x.hs)) (by assumption)
    exact ⟨ret_int (by have h := szOut_yes (left := left) (s := szObs x.on x.os + szChs x.hn x.hs + szTis x.tn x.ts) (by omega); omega), (below_alloc _ _).trans ((hb12.trans (hb3.mono hb12.size)).mono (by simp))⟩
theorem StrsOwn.fr {w w' : World} {lo hi lo2 hi2 : Nat} {ad : Option Addr} {n : Nat} {s : Nat → ByteArray} (h : StrsOwn w lo hi ad n s) (hb : Fr lo2 hi2 w w') (hw : hi ≤ w.heap.size) (ho : hi ≤ lo2 ∨ hi2 ≤ lo) : StrsOwn w' lo hi ad n s := fun i hi' => by
  obtain ⟨b, off, e1, e2, e3, e4, e5⟩ := h i hi'
  exact ⟨b, off, e1, e2, e3, (hb.cell (p := ⟨b, off + i, none⟩) (Nat.lt_of_lt_of_le e3 hw) (by show b < _ ∨ _ ≤ b; omega)).trans e4, (hb.frozen (p := ⟨b, off + i, none⟩) (Nat.lt_of_lt_of_le e3 hw) (by show b < _ ∨ _ ≤ b; omega)).trans e5⟩
theorem StrsOwn.mono {w : World} {lo hi lo2 hi2 : Nat} {ad : Option Addr} {n : Nat} {s : Nat → ByteArray} (h : StrsOwn w lo hi ad n s) (h1 : lo2 ≤ lo) (h2 : hi ≤ hi2) : StrsOwn w lo2 hi2 ad n s := fun i hi' => by
  obtain ⟨b, off, e1, e2, e3, e4, e5⟩ := h i hi'
  exact ⟨b, off, e1, by omega, by omega, e4, e5⟩
theorem StrsOwn.isIn {w : World} {lo hi : Nat} {ad : Option Addr} {n : Nat} {s : Nat → ByteArray} (h : StrsOwn w lo hi ad n s) : StrsIn w lo hi ad n s := fun i hi' => by
  obtain ⟨b, off, e1, e2, e3, e4, e5⟩ := h i hi'
  exact ⟨b, off, e1, e2, e3, e4⟩
theorem World.size_setCell (w : World) (a : Addr) (v : Value) : (w.setCell a v).heap.size = w.heap.size := by simp [World.setCell]
set_option maxRecDepth 100000 in
set_option maxHeartbeats 400000 in
theorem toOb_any (x : Ob) (ad : Option Addr) (cap : Nat) (w : World) (lo hi : Nat) (hhi : hi ≤ w.heap.size) (hl : (x.hn : Int) ≤ 8796093022208) (hc : StrsIn w lo hi ad x.hn x.hs) :
    Calls Tryz.prog 37 #[.agg #[.string x.kind, .string x.name, .int .i64 x.ver, .int .i64 x.born, .string x.text, .bool x.ending, .slice ad x.hn cap]] w fun e w' => ∃ ad' cap', e = .returned (.agg #[.string x.kind, .string x.name, .int .i64 x.ver, .int .i64 x.born, .string x.text, .bool x.ending, .slice ad' x.hn cap']) ∧ StrsOwn w' w.heap.size w'.heap.size ad' x.hn x.hs ∧ Below w.heap.size w w' := by
  go_enter Tryz.func37, Tryz.ntmps37
  go_wp2_with fail
  refine (toStrs_any x.hn x.hs ad cap _ lo hi (by simp; omega) hl (hc.below (B := w.heap.size) ((((Below.refl _ _).alloc (Nat.le_refl _) _).alloc (by simp) _).alloc (by simp; omega) _) hhi)).mono ?_
  rintro e w1 ⟨ad', cap', rfl, hown, hb1⟩
  have hbW : Below w.heap.size w w1 := ((((Below.refl _ _).alloc (Nat.le_refl _) _).alloc (by simp) _).alloc (by simp; omega) _).trans (hb1.mono (by simp; omega))
  have hz : w.heap.size + 2 < w1.heap.size := by have := hb1.size; simp at this; omega
  obtain ⟨hcc, hff⟩ := bcell hb1
  simp only [World.size_alloc] at hcc hff hown
  clear hb1 hc
  go_wp2
  refine bodyPost_ret (v := .agg #[.string x.kind, .string x.name, .int .i64 x.ver, .int .i64 x.born, .string x.text, .bool x.ending, .slice ad' x.hn cap']) (by simp [results, Tryz.results37, go_sem, hcc]) rfl ⟨ad', cap', rfl, ?_, ?_⟩
  · simp only [World.size_setCell]
    refine (StrsOwn.fr hown (lo2 := w.heap.size) (hi2 := w.heap.size + 3) ?_ (Nat.le_refl _) (by omega)).mono (by omega) (Nat.le_refl _)
    iterate 8 refine Fr.setCell ?_ (by simp; try omega) (by simp; try omega) _
    exact Fr.refl _ _ _
  · refine hbW.trans (Fr.below (lo := w.heap.size) (hi := w.heap.size + 3) ?_ (Nat.le_refl _) hbW.size)
    iterate 8 refine Fr.setCell ?_ (by simp; try omega) (by simp; try omega) _
    exact Fr.refl _ _ _
end Go.Proofs.YtkbghbbaldjinaaGreatDoor
