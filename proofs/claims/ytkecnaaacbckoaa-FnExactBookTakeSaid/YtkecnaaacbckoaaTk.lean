import Derived.Test.YtkecnaaacbckoaaTj
namespace Go.Proofs.Ytkecnaaacbckoaa
open Go.RowKit Go.Maps
theorem StrsIn.setNs {w : World} {lo hi : Nat} {ad : Option Addr} {n : Nat} {s : Nat → ByteArray} {p : Addr} {v : Value} (h : StrsIn w lo hi ad n s) (hv : w.cell? p = some v) (hns : ∀ t, ¬ v = .string t) (u : Value) : StrsIn (w.setCell p u) lo hi ad n s := fun i hi' => by
  obtain ⟨b, off, e1, e2, e3, e4⟩ := h i hi'
  refine ⟨b, off, e1, e2, e3, ?_⟩
  rw [World.cell?_setCell_other _ _ _ _ (fun q => by
    rw [q, e4] at hv
    exact hns _ (Option.some.inj hv).symm)]
  exact e4
/-- where spec's list lies: not in its mirror's box -/
def SkL (w : World) (X LO : Nat) (ad : Option Addr) (n : Nat) (y : Nat → Ob) : Prop :=
  ∀ j, j < n → ∃ b ah ch, ad = some ⟨b, 0, none⟩ ∧ (¬ b = X ∧ LO ≤ b) ∧ b < w.heap.size ∧ ObCells w b (j * 7) (y j) ah ch ∧ StrsIn w LO w.heap.size ah (y j).hn (y j).hs
theorem SkL.grow {w w' : World} {X LO : Nat} {ad : Option Addr} {n : Nat} {y : Nat → Ob} (h : SkL w X LO ad n y) (hb : Below w.heap.size w w') : SkL w' X LO ad n y := fun j hj => by
  obtain ⟨b, ah, ch, e1, e2, e3, e4, e5⟩ := h j hj
  exact ⟨b, ah, ch, e1, e2, Nat.lt_of_lt_of_le e3 hb.size, e4.below hb e3, fun i hi => by
    obtain ⟨b', off, f1, f2, f3, f4⟩ := e5 i hi
    exact ⟨b', off, f1, f2, Nat.lt_of_lt_of_le f3 hb.size, (hb.cell (p := ⟨b', off + i, none⟩) f3).trans f4⟩⟩
theorem SkL.set {w : World} {X LO : Nat} {ad : Option Addr} {n : Nat} {y : Nat → Ob} (h : SkL w X LO ad n y) {k : Nat} {v : Value} (hv : w.cell? ⟨X, k, none⟩ = some v) (hns : ∀ t, ¬ v = .string t) (u : Value) : SkL (w.setCell ⟨X, k, none⟩ u) X LO ad n y := fun j hj => by
  obtain ⟨b, ah, ch, e1, e2, e3, e4, e5⟩ := h j hj
  have F : FrP (fun q => q = X) w (w.setCell ⟨X, k, none⟩ u) := FrP.setCell (P := fun q => q = X) (FrP.refl _ w) (p := ⟨X, k, none⟩) rfl _
  refine ⟨b, ah, ch, e1, e2, by rw [World.size_setCell]; exact e3, e4.frP F e3 e2.1, ?_⟩
  rw [World.size_setCell]
  exact e5.setNs hv hns u
theorem SkL.isIn {w : World} {X LO : Nat} {ad : Option Addr} {n : Nat} {y : Nat → Ob} (h : SkL w X LO ad n y) : ObjsIn w LO w.heap.size ad n y := fun j hj => by
  obtain ⟨b, ah, ch, e1, e2, e3, e4, e5⟩ := h j hj
  exact ⟨b, 0, ah, ch, e1, e2.2, e3, by rw [Nat.zero_add]; exact e4, e5⟩
theorem atOb_cells {w : World} {g m : Nat} {c : Nat → Value} {j : Nat} {y : Ob} {A : Option Addr} {C : Nat} (r : RowF w g (m * 7) c) (hj : j < m) (h : atOb c j y A C) : ObCells w g (j * 7) y A C := by
  obtain ⟨a0, a1, a2, a3, a4, a5, a6⟩ := h
  exact ⟨(r.cell _ (by omega)).trans (congrArg some a0), (r.cell _ (by omega)).trans (congrArg some a1), (r.cell _ (by omega)).trans (congrArg some a2), (r.cell _ (by omega)).trans (congrArg some a3), (r.cell _ (by omega)).trans (congrArg some a4), (r.cell _ (by omega)).trans (congrArg some a5), (r.cell _ (by omega)).trans (congrArg some a6)⟩
theorem SkL.frLow {w w' : World} {P : Nat → Prop} {X LO : Nat} {ad : Option Addr} {n : Nat} {y : Nat → Ob} (h : SkL w X LO ad n y) (hf : FrP P w w') (hp : ∀ q, LO ≤ q → ¬ P q) : SkL w' X LO ad n y := fun j hj => by
  obtain ⟨b, ah, ch, e1, e2, e3, e4, e5⟩ := h j hj
  exact ⟨b, ah, ch, e1, e2, Nat.lt_of_lt_of_le e3 hf.size, e4.frP hf e3 (hp _ e2.2), fun i hi => by
    obtain ⟨b', off, f1, f2, f3, f4⟩ := e5 i hi
    exact ⟨b', off, f1, f2, Nat.lt_of_lt_of_le f3 hf.size, (hf.cell (p := ⟨b', off + i, none⟩) f3 (hp _ f2)).trans f4⟩⟩
theorem skL_obs {w : World} {X LO : Nat} {ad : Option Addr} {g n : Nat} {x : Nat → Ob} {A : Nat → Option Addr} {C hb : Nat → Nat} (h : ObsAt w ad g n x A C hb) (hX : w.heap.size ≤ X) (hq : ∀ q, blkH g n (fun i => (x i).hn) hb q → LO ≤ q) : SkL w X LO ad n x := fun j hj => by
  obtain ⟨c, r, hc⟩ := h.row (by omega)
  have hg := r.lt
  refine ⟨g, A j, C j, h.addr (by omega), ⟨by omega, hq g (Or.inl ⟨by omega, rfl⟩)⟩, hg, atOb_cells r hj (hc j hj), fun i hi => ?_⟩
  obtain ⟨b, off, e1, e2, e3, e4, _⟩ := h.hold j hj i hi
  have h1 := h.hlt j hj (by omega)
  have h2 := hq (hb j) (Or.inr ⟨j, hj, by show ¬ (x j).hn = 0; omega, rfl⟩)
  exact ⟨b, off, e1, by omega, by omega, e4⟩
theorem skL_bdR {w : World} {X LO base hi : Nat} {v : Value} {m : Nat} {y : Nat → Ob} {A : Nat → Option Addr} {C : Nat → Nat} (h : BdR w base LO hi v m y A C) (hX : X < base) (hlo : LO ≤ base) (hhi : hi ≤ w.heap.size) : ∃ ad cap, v = .slice ad m cap ∧ SkL w X LO ad m y := by
  obtain ⟨c, r, hc⟩ := h.row
  rcases r.2 with ⟨rfl, h0⟩ | ⟨g, cap, cur, rfl, hb, _⟩
  · subst h0
    exact ⟨none, 0, rfl, fun j hj => absurd hj (Nat.not_lt_zero _)⟩
  · have rr := row_of_own r
    have hg := rr.lt
    refine ⟨_, cap, rfl, fun j hj => ⟨g, A j, C j, rfl, ⟨by omega, by omega⟩, hg, atOb_cells rr hj (hc j hj), fun i hi => ?_⟩⟩
    obtain ⟨b, off, e1, e2, e3, e4⟩ := h.hold j hj i hi
    exact ⟨b, off, e1, e2, by omega, e4⟩
/-- where spec's loop stands -/
structure SkI (w wr : World) (m : Mr) (cd fv : Int) (n : Nat) (an : Option Addr) (cn X : Nat) (s : TS) (i n' : Nat) (y : Nat → Ob) (ad : Option Addr) (cap : Nat) : Prop where
  bn : BoxC wr (w.heap.size + 1) #[.int .i64 cd, .slice an n cn, .int .i64 fv]
  br : BoxC wr (w.heap.size + 1 + 1) #[.string ByteArray.empty, .string ByteArray.empty, .int .i64 0, .slice none 0 0, .int .i64 0]
  bx : BoxC wr X #[.string m.kind, .string m.pre, .int .i64 s.at_, .slice ad n' cap, .int .i64 s.seen]
  list : SkL wr X (w.heap.size + 3) ad n' y
  obs : toL n' y = s.l
  len : n' ≤ m.n + i
  low : Below w.heap.size w wr
  X3 : w.heap.size + 3 ≤ X
theorem chgL_len (o : Ob) (gone : Bool) (l : List Ob) : (chgL o gone l).length ≤ l.length + 1 := by
  have hp : ∀ l : List Ob, (putG o l).length ≤ l.length + 1 := fun l => by
    induction l with
    | nil => simp [putG]
    | cons y r ih =>
      simp only [putG]
      split
      · simp; omega
      · have := List.length_filter_le (otherK o) (y :: r)
        simp only [List.length_cons] at this ⊢
        omega
  unfold chgL
  split
  · have := List.length_filter_le (otherK o) l
    omega
  · exact hp l
section
variable {w wr w' : World} {m : Mr} {cd fv : Int} {n : Nat} {an : Option Addr} {cn X : Nat} {s : TS} {i n' : Nat} {y : Nat → Ob} {ad : Option Addr} {cap : Nat}
theorem SkI.grow (h : SkI w wr m cd fv n an cn X s i n' y ad cap) (hb : Below wr.heap.size wr w') : SkI w w' m cd fv n an cn X s i n' y ad cap :=
  ⟨h.bn.below hb, h.br.below hb, h.bx.below hb, h.list.grow hb, h.obs, h.len, h.low.trans (hb.mono h.low.size), h.X3⟩
theorem SkI.skip (h : SkI w wr m cd fv n an cn X s i n' y ad cap) : SkI w wr m cd fv n an cn X s (i + 1) n' y ad cap :=
  ⟨h.bn, h.br, h.bx, h.list, h.obs, by have := h.len; omega, h.low, h.X3⟩
/-- a change is put -/
theorem SkI.turn (h : SkI w wr m cd fv n an cn X s i n' y ad cap) {c : Ch} (hv : ¬ c.ver ≤ s.at_) {A : Nat → Option Addr} {C : Nat → Nat} {v : Value} {base hi : Nat} (hb : Below wr.heap.size wr w') (hbd : BdR w' base (w.heap.size + 3) hi v (putAll n' y c.ob c.gone).m (putAll n' y c.ob c.gone).y A C) (hB : wr.heap.size ≤ base) (hhi : hi ≤ w'.heap.size) :
    ∃ ad' cap', v = .slice ad' (putAll n' y c.ob c.gone).m cap' ∧ SkI w (((w'.setCell ⟨X, 3, none⟩ v).setCell ⟨X, 2, none⟩ (.int .i64 c.ver)).setCell ⟨X, 4, none⟩ (.int .i64 (wrap64 (s.seen + 1)))) m cd fv n an cn X (tkStep c s) (i + 1) (putAll n' y c.ob c.gone).m (putAll n' y c.ob c.gone).y ad' cap' := by
  have hs : tkStep c s = ⟨c.ver, wrap64 (s.seen + 1), chgL c.ob c.gone s.l⟩ := if_neg hv
  have hX3 := h.X3
  have hXl := h.bx.lt
  obtain ⟨ad', cap', rfl, hl⟩ := skL_bdR (X := X) hbd (by omega) (by omega) hhi
  have hG := h.grow hb
  have F : FrP (fun q => q = X) w' (((w'.setCell ⟨X, 3, none⟩ (.slice ad' (putAll n' y c.ob c.gone).m cap')).setCell ⟨X, 2, none⟩ (.int .i64 c.ver)).setCell ⟨X, 4, none⟩ (.int .i64 (wrap64 (s.seen + 1)))) :=
    FrP.setCell (P := fun q => q = X) (FrP.setCell (P := fun q => q = X) (FrP.setCell (P := fun q => q = X) (FrP.refl _ w') (p := ⟨X, 3, none⟩) rfl _) (p := ⟨X, 2, none⟩) rfl _) (p := ⟨X, 4, none⟩) rfl _
  have b1 := hG.bx.set (j := 3) (by simp) (.slice ad' (putAll n' y c.ob c.gone).m cap')
  have b2 := b1.set (j := 2) (by simp) (.int .i64 c.ver)
  have b3 := b2.set (j := 4) (by simp) (.int .i64 (wrap64 (s.seen + 1)))
  have hobs := putAll_list n' y c.ob c.gone
  rw [h.obs] at hobs
  refine ⟨ad', cap', rfl, ?_⟩
  rw [hs]
  refine ⟨hG.bn.fr F (by show ¬ _ = _; omega), hG.br.fr F (by show ¬ _ = _; omega), b3, ?_, hobs, ?_, hG.low.trans (F.below (fun q hq e => by have : q = X := e; omega) hG.low.size), hX3⟩
  · exact ((hl.set (hG.bx.cell 3) (fun t e => by cases e) _).set (b1.cell 2) (fun t e => by cases e) _).set (b2.cell 4) (fun t e => by cases e) _
  · have h1 := congrArg List.length hobs
    rw [toL_len] at h1
    have h2 := chgL_len c.ob c.gone s.l
    have h3 := congrArg List.length h.obs
    rw [toL_len] at h3
    have := h.len
    omega
end
def SkR (w : World) (m : Mr) (cd fv : Int) (n : Nat) (x : Nat → Ch) (an : Option Addr) (cn X : Nat) (v : Value) (wr : World) : Prop :=
  ∃ (i n' : Nat) (y : Nat → Ob) (ad : Option Addr) (cap : Nat), i ≤ n ∧ v = .int .i64 i ∧ SkI w wr m cd fv n an cn X (tkTo ⟨m.at_, m.seen, toL m.n m.os⟩ x i) i n' y ad cap
end Go.Proofs.Ytkecnaaacbckoaa
