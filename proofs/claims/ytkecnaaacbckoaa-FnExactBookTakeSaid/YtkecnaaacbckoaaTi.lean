import Derived.Test.YtkecnaaacbckoaaTh
import Derived.Test.YtkecnaaacbckoaaNr
import Derived.Lib.MinMax
namespace Go.Proofs.Ytkecnaaacbckoaa
open Go.RowKit Go.Maps
theorem BoxC.fr {w w1 : World} {P : Nat → Prop} {b : Nat} {c : Array Value} (h : BoxC w b c) (hf : FrP P w w1) (hp : ¬ P b) : BoxC w1 b c :=
  ⟨fun i => (hf.cell (p := ⟨b, i, none⟩) h.lt hp).trans (h.cell i), fun i => (hf.frozen (p := ⟨b, i, none⟩) h.lt hp).trans (h.free i), Nat.lt_of_lt_of_le h.lt hf.size⟩
theorem BoxC.set {w : World} {b j : Nat} {c : Array Value} (h : BoxC w b c) (hj : j < c.size) (u : Value) : BoxC (w.setCell ⟨b, j, none⟩ u) b (c.setIfInBounds j u) := by
  refine ⟨fun i => ?_, fun i => by rw [World.frozen?_setCell]; exact h.free i, by rw [World.size_setCell]; exact h.lt⟩
  by_cases e : i = j
  · subst e
    have hc := h.cell i
    rw [Array.getElem?_eq_getElem hj] at hc
    rw [World.cell?_setCell_same _ _ _ hc]
    simp [hj]
  · rw [World.cell?_setCell_other _ _ _ _ (fun q => e (by injection q with _ q2; exact q2.symm)), h.cell i, Array.getElem?_setIfInBounds_ne (fun q => e q.symm)]
/-- the box of a row -/
structure RowB (w : World) (R : Nat) (v : Value) : Prop where
  cell : w.cell? ⟨R, 0, none⟩ = some v
  free : w.frozen? ⟨R, 0, none⟩ = false
  lt : R < w.heap.size
theorem RowB.fr {w w1 : World} {P : Nat → Prop} {R : Nat} {v : Value} (h : RowB w R v) (hf : FrP P w w1) (hp : ¬ P R) : RowB w1 R v :=
  ⟨(hf.cell (p := ⟨R, 0, none⟩) h.lt hp).trans h.cell, (hf.frozen (p := ⟨R, 0, none⟩) h.lt hp).trans h.free, Nat.lt_of_lt_of_le h.lt hf.size⟩
theorem RowB.below {w w1 : World} {R : Nat} {v : Value} (h : RowB w R v) (hb : Below w.heap.size w w1) : RowB w1 R v := h.fr (FrP.of_below (P := fun _ => False) hb) (fun h => h)
/-- how far taking has come -/
structure TS where
  at_ : Int
  seen : Int
  l : List Ob
def tkStep (c : Ch) (s : TS) : TS := if c.ver ≤ s.at_ then s else ⟨c.ver, wrap64 (s.seen + 1), chgL c.ob c.gone s.l⟩
def tkTo (s : TS) (x : Nat → Ch) : Nat → TS | 0 => s | i + 1 => tkStep (x i) (tkTo s x i)
/-- where impl's loop stands -/
structure TkI (w wr : World) (m : Mr) (ad0 : Option Addr) (c0 : Nat) (cd fv : Int) (n : Nat) (an : Option Addr) (cn R : Nat) (s : TS) (i : Nat) (L : List EO) (ad : Option Addr) (g cap : Nat) : Prop where
  bm : BoxC wr w.heap.size #[.string m.kind, .string m.pre, .int .i64 s.at_, .slice ad0 m.n c0, .int .i64 s.seen]
  bn : BoxC wr (w.heap.size + 1) #[.int .i64 cd, .slice an n cn, .int .i64 fv]
  br : BoxC wr (w.heap.size + 1 + 1) #[.string ByteArray.empty, .string ByteArray.empty, .int .i64 0, .slice none 0 0, .int .i64 0]
  bR : RowB wr R (.slice ad L.length cap)
  row : RowS wr ad g cap L
  hold : HoldE wr L
  gR : ad ≠ none → ¬ R = g ∧ w.heap.size + 3 ≤ g
  hb : ∀ e, e ∈ L → e.ob.hn ≠ 0 → (ad ≠ none → e.hb ≠ g) ∧ e.hb ≠ R ∧ w.heap.size + 3 ≤ e.hb
  obs : L.map EO.ob = s.l
  len : L.length ≤ m.n + i
  low : Below w.heap.size w wr
  R3 : w.heap.size + 3 ≤ R
section
variable {w wr w' : World} {m : Mr} {ad0 : Option Addr} {c0 : Nat} {cd fv : Int} {n : Nat} {an : Option Addr} {cn R : Nat} {s : TS} {i : Nat} {L : List EO} {ad : Option Addr} {g cap : Nat}
theorem TkI.grow (h : TkI w wr m ad0 c0 cd fv n an cn R s i L ad g cap) (hb : Below wr.heap.size wr w') : TkI w w' m ad0 c0 cd fv n an cn R s i L ad g cap :=
  ⟨h.bm.below hb, h.bn.below hb, h.br.below hb, h.bR.below hb, h.row.grow hb, h.hold.grow hb, h.gR, h.hb, h.obs, h.len, h.low.trans (hb.mono h.low.size), h.R3⟩
theorem TkI.skip (h : TkI w wr m ad0 c0 cd fv n an cn R s i L ad g cap) : TkI w wr m ad0 c0 cd fv n an cn R s (i + 1) L ad g cap :=
  ⟨h.bm, h.bn, h.br, h.bR, h.row, h.hold, h.gR, h.hb, h.obs, by have := h.len; omega, h.low, h.R3⟩
theorem TkI.nonil (h : TkI w wr m ad0 c0 cd fv n an cn R s i L ad g cap) (hl : L ≠ []) : ad ≠ none ∧ g < wr.heap.size := by
  rcases h.row with ⟨_, h2, _⟩ | ⟨h1, h2, _⟩
  · exact absurd h2 hl
  · exact ⟨by rw [h1]; simp, h2.lt⟩
/-- another row: what was not the row stays -/
theorem TkI.turn (h : TkI w wr m ad0 c0 cd fv n an cn R s i L ad g cap) {c : Ch} (hv : ¬ c.ver ≤ s.at_) {L' : List EO} {ad' : Option Addr} {g' cap' : Nat} (hf : FrP (fun q => q = R ∨ (L ≠ [] ∧ q = g)) wr w') (hc : w'.cell? ⟨R, 0, none⟩ = some (.slice ad' L'.length cap')) (hz : w'.frozen? ⟨R, 0, none⟩ = false)
    (hrow : RowS w' ad' g' cap' L') (hhold : HoldE w' L') (hgR : ad' ≠ none → ¬ R = g' ∧ w.heap.size + 3 ≤ g') (hhb : ∀ e, e ∈ L' → e.ob.hn ≠ 0 → (ad' ≠ none → e.hb ≠ g') ∧ e.hb ≠ R ∧ w.heap.size + 3 ≤ e.hb) (hobs : L'.map EO.ob = chgL c.ob c.gone s.l) (hlen : L'.length ≤ L.length + 1) :
    TkI w ((w'.setCell ⟨w.heap.size, 2, none⟩ (.int .i64 c.ver)).setCell ⟨w.heap.size, 4, none⟩ (.int .i64 (wrap64 (s.seen + 1)))) m ad0 c0 cd fv n an cn R (tkStep c s) (i + 1) L' ad' g' cap' := by
  have hs : tkStep c s = ⟨c.ver, wrap64 (s.seen + 1), chgL c.ob c.gone s.l⟩ := if_neg hv
  have hR3 := h.R3
  have hno : ∀ q, q < w.heap.size + 3 → ¬ (q = R ∨ (L ≠ [] ∧ q = g)) := fun q hq e => by
    rcases e with e | ⟨e1, e2⟩
    · omega
    · have := (h.gR (h.nonil e1).1).2
      omega
  have F : FrP (fun q => q = w.heap.size) w' ((w'.setCell ⟨w.heap.size, 2, none⟩ (.int .i64 c.ver)).setCell ⟨w.heap.size, 4, none⟩ (.int .i64 (wrap64 (s.seen + 1)))) :=
    FrP.setCell (P := fun q => q = w.heap.size) (FrP.setCell (P := fun q => q = w.heap.size) (FrP.refl _ w') (p := ⟨w.heap.size, 2, none⟩) rfl _) (p := ⟨w.heap.size, 4, none⟩) rfl _
  have hbR : RowB w' R (.slice ad' L'.length cap') := ⟨hc, hz, Nat.lt_of_lt_of_le h.bR.lt hf.size⟩
  rw [hs]
  refine ⟨?_, (h.bn.fr hf (hno _ (by omega))).fr F (by show ¬ _ = _; omega), (h.br.fr hf (hno _ (by omega))).fr F (by show ¬ _ = _; omega), hbR.fr F (by show ¬ _ = _; omega), ?_, hhold.fr F (fun e he h0 => by have := (hhb e he h0).2.2; show ¬ _ = _; omega), hgR, hhb, hobs, by have := h.len; omega, ?_, hR3⟩
  · have b1 := (h.bm.fr hf (hno _ (by omega))).set (j := 2) (by simp) (.int .i64 c.ver)
    have b2 := b1.set (j := 4) (by simp) (.int .i64 (wrap64 (s.seen + 1)))
    exact b2
  · rcases hrow with h1 | ⟨h1, h2, h3⟩
    · exact Or.inl h1
    · exact Or.inr ⟨h1, h2.fr F (by have := (hgR (by rw [h1]; simp)).2; show ¬ _ = _; omega), h3⟩
  · have l1 : Below w.heap.size w w' := h.low.trans (hf.below (fun q hq => hno q (by omega)) h.low.size)
    exact l1.trans (F.below (fun q hq e => by have : q = w.heap.size := e; omega) l1.size)
theorem TkI.went (h : TkI w wr m ad0 c0 cd fv n an cn R s i L ad g cap) {c : Ch} (hv : ¬ c.ver ≤ s.at_) (hg : c.gone = true) (hc : w'.cell? ⟨R, 0, none⟩ = some (.slice ad (flK c.ob L).length cap)) (hz : w'.frozen? ⟨R, 0, none⟩ = false) (hrow : RowS w' ad g cap (flK c.ob L)) (hf : FrP (fun q => q = R ∨ (L ≠ [] ∧ q = g)) wr w') :
    TkI w ((w'.setCell ⟨w.heap.size, 2, none⟩ (.int .i64 c.ver)).setCell ⟨w.heap.size, 4, none⟩ (.int .i64 (wrap64 (s.seen + 1)))) m ad0 c0 cd fv n an cn R (tkStep c s) (i + 1) (flK c.ob L) ad g cap := by
  have hsub : (flK c.ob L).Sublist L := List.filter_sublist
  refine h.turn hv hf hc hz hrow ((h.hold.sub hsub).fr hf (fun e he h0 => ?_)) h.gR (fun e he => h.hb e (hsub.subset he)) ?_ (by have := hsub.length_le; omega)
  · have hh := h.hb e (hsub.subset he) h0
    rintro (h1 | ⟨h1, h2⟩)
    · exact hh.2.1 h1
    · exact hh.1 (h.nonil h1).1 h2
  · rw [flK_map, h.obs, chgL, hg, if_pos rfl]
theorem TkI.came (h : TkI w wr m ad0 c0 cd fv n an cn R s i L ad g cap) {c : Ch} (hv : ¬ c.ver ≤ s.at_) (hg : c.gone = false) {e : EO} {k g' cap' : Nat} (he : e.ob = c.ob) (ho : StrsOwn wr e.hb (e.hb + 1) e.A e.ob.hn e.ob.hs) (hlt : e.ob.hn ≠ 0 → e.hb < wr.heap.size) (h3 : w.heap.size + 3 ≤ e.hb) (hnR : e.ob.hn ≠ 0 → e.hb ≠ R) (hng : e.ob.hn ≠ 0 → L ≠ [] → e.hb ≠ g) (hnew : ∀ f, f ∈ L → e.ob.hn ≠ 0 → f.ob.hn ≠ 0 → e.hb ≠ f.hb)
    (hp : placeP e.ob L k) (z1 : wr.heap.size ≤ g') (z2 : (flK e.ob L).length + 1 ≤ cap') (hc : w'.cell? ⟨R, 0, none⟩ = some (.slice (some ⟨g', 0, none⟩) ((flK e.ob L).length + 1) cap')) (hz : w'.frozen? ⟨R, 0, none⟩ = false) (hrow : RowE w' g' ((flK e.ob L).take k ++ e :: (flK e.ob L).drop k)) (hf : FrP (fun q => q = R ∨ (L ≠ [] ∧ q = g)) wr w') :
    TkI w ((w'.setCell ⟨w.heap.size, 2, none⟩ (.int .i64 c.ver)).setCell ⟨w.heap.size, 4, none⟩ (.int .i64 (wrap64 (s.seen + 1)))) m ad0 c0 cd fv n an cn R (tkStep c s) (i + 1) ((flK e.ob L).take k ++ e :: (flK e.ob L).drop k) (some ⟨g', 0, none⟩) g' cap' := by
  have hsub : (flK e.ob L).Sublist L := List.filter_sublist
  have hlen : ((flK e.ob L).take k ++ e :: (flK e.ob L).drop k).length = (flK e.ob L).length + 1 := by
    have := place_le hp
    simp
    omega
  have hmem : ∀ f, f ∈ (flK e.ob L).take k ++ e :: (flK e.ob L).drop k → f = e ∨ f ∈ L := fun f hf' => by
    rcases List.mem_append.1 hf' with h1 | h1
    · exact Or.inr (hsub.subset (List.mem_of_mem_take h1))
    · rcases List.mem_cons.1 h1 with h2 | h2
      · exact Or.inl h2
      · exact Or.inr (hsub.subset (List.mem_of_mem_drop h2))
  have hho : HoldE wr ((flK e.ob L).take k ++ e :: (flK e.ob L).drop k) := by
    refine HoldE.ins ?_ ho hlt (fun f hf' => ?_)
    · rw [List.take_append_drop]
      exact h.hold.sub hsub
    · rw [List.take_append_drop] at hf'
      exact hnew f (hsub.subset hf')
  have hR := h.bR.lt
  refine h.turn hv hf (by rw [hlen]; exact hc) hz (Or.inr ⟨rfl, hrow, by rw [hlen]; exact z2⟩) (hho.fr hf (fun f hf' h0 => ?_)) (fun _ => ⟨by omega, by have := h.R3; omega⟩) (fun f hf' h0 => ?_) ?_ (by rw [hlen]; have := hsub.length_le; omega)
  · rcases hmem f hf' with rfl | h1
    · rintro (h1 | ⟨h1, h2⟩)
      · exact hnR h0 h1
      · exact hng h0 h1 h2
    · have hh := h.hb f h1 h0
      rintro (h2 | ⟨h2, h4⟩)
      · exact hh.2.1 h2
      · exact hh.1 (h.nonil h2).1 h4
  · rcases hmem f hf' with rfl | h1
    · exact ⟨fun _ => by have := hlt h0; omega, hnR h0, h3⟩
    · have hh := h.hb f h1 h0
      exact ⟨fun _ => by have := h.hold.lt f h1 h0; omega, hh.2.1, hh.2.2⟩
  · rw [put_list hp, h.obs, chgL, hg, he]
    rfl
end
/-- where the loop stands, at a slot and a world -/
def TkR (w : World) (m : Mr) (ad0 : Option Addr) (c0 : Nat) (cd fv : Int) (n : Nat) (x : Nat → Ch) (an : Option Addr) (cn R : Nat) (v : Value) (wr : World) : Prop :=
  ∃ (i : Nat) (L : List EO) (ad : Option Addr) (g cap : Nat), i ≤ n ∧ v = .int .i64 i ∧ TkI w wr m ad0 c0 cd fv n an cn R (tkTo ⟨m.at_, m.seen, toL m.n m.os⟩ x i) i L ad g cap
end Go.Proofs.Ytkecnaaacbckoaa
