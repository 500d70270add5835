import Derived.Test.YtkfbclopkgnacaaGreatDoorGe
import Derived.Laws.IdiomCopy
import Derived.Laws.CopyOwn
import Derived.Test.YtkfbclopkgnacaaGreatDoorZ
import Derived.Maps.AppendAt
namespace Go.Proofs.YtkfbclopkgnacaaGreatDoor
open Go.RowKit
theorem run_copy_many {P : Program} (w : World) (dT sT ty elem : TypeId) (b o dLen dCap : Nat) (a : Addr) (sLen sCap z : Nat) (cs : List Value)
    (hu : P.underlying dT = some (.slice elem)) (hs : (P.info? elem).map (·.size) = some z) (hn : cs.length = Nat.min sLen dLen * z)
    (hsrc : ∀ j v, cs[j]? = some v → w.cell? (a.add j) = some v) (hc : ∀ j, j < cs.length → (w.cell? ⟨b, o + j, none⟩).isSome = true) (hf : ∀ j, j < cs.length → w.frozen? ⟨b, o + j, none⟩ = false) (h1 : ∀ v ∈ cs, v.oneCell' = true) :
    (Builtin.copy_ #[dT, sT] ty #[.slice (some ⟨b, o, none⟩) dLen dCap, .slice (some a) sLen sCap]).run P w = .ok (goInt (Nat.min sLen dLen)) (w.setCells b o cs) := by
  have hl := run_loadCells_list (P := P) w a cs hsrc
  have hst := run_storeCells_cells (P := P) b o cs 0 w (by simpa using hc) (by simpa using hf) h1
  cases hq : P.info? elem with
  | none => simp [hq] at hs
  | some i =>
    have hi : i.size = z := by simpa [hq] using hs
    simp [Builtin.copy_, run_underlying hu, Builtin.lenOf, Builtin.firstCells, sizeOf, typeInfo, hq, hi, ← hn, hl, hst]
/-- m cells of values of one cell each, at ad -/
structure SrcRow (w : World) (lo hi : Nat) (ad : Option Addr) (m : Nat) (c : Nat → Value) : Prop where
  at_ : ∀ j, j < m → ∃ b off, ad = some ⟨b, off, none⟩ ∧ lo ≤ b ∧ b < hi ∧ w.cell? ⟨b, off + j, none⟩ = some (c j)
  one : ∀ j, j < m → (c j).oneCell' = true
def rowCells (m : Nat) (c : Nat → Value) : List Value := (List.range m).map c
theorem rowCells_len (m : Nat) (c : Nat → Value) : (rowCells m c).length = m := by simp [rowCells]
theorem rowCells_get {m : Nat} {c : Nat → Value} {j : Nat} {u : Value} (h : (rowCells m c)[j]? = some u) : j < m ∧ u = c j := by
  simp only [rowCells, List.getElem?_map] at h
  rcases Nat.lt_or_ge j m with h1 | h1
  · rw [List.getElem?_eq_getElem (by simpa using h1)] at h
    simp at h
    exact ⟨h1, h.symm⟩
  · rw [List.getElem?_eq_none (by simpa using h1)] at h
    cases h
theorem rowCells_at {m : Nat} {c : Nat → Value} {j : Nat} (h : j < (rowCells m c).length) : (rowCells m c)[j] = c j := by simp [rowCells]
theorem RowF.filled {w : World} {g m : Nat} (c : Nat → Value) (h : Room w g m) : RowF (w.setCells g 0 (rowCells m c)) g m c :=
  ⟨by rw [size_setCells]; exact h.lt, fun j => by rw [World.frozen?_setCells]; exact h.free j, fun j hj => by
    have := World.cell?_setCells_in g (rowCells m c) 0 w (fun j hj => by
      rw [rowCells_len] at hj
      obtain ⟨u, hu⟩ := h.has j hj
      rw [Nat.zero_add, hu]; rfl) j (by rw [rowCells_len]; exact hj)
    rw [Nat.zero_add, rowCells_at] at this
    exact this⟩
theorem StrsIn.src {w : World} {lo hi : Nat} {ad : Option Addr} {n : Nat} {s : Nat → ByteArray} (h : StrsIn w lo hi ad n s) : SrcRow w lo hi ad (n * 1) (fun j => .string (s j)) :=
  ⟨fun j hj => h j (by omega), fun _ _ => rfl⟩
theorem RowF.strs {w : World} {g n : Nat} {s : Nat → ByteArray} (h : RowF w g (n * 1) (fun j => .string (s j))) : StrsOwn w g (g + 1) (some ⟨g, 0, none⟩) n s := fun i hi =>
  ⟨g, 0, rfl, Nat.le_refl _, Nat.lt_succ_self _, by rw [Nat.zero_add]; exact h.cell i (by omega), by rw [Nat.zero_add]; exact h.free i⟩
theorem StrsOwn.zero {w : World} {b : Nat} {ad : Option Addr} {s : Nat → ByteArray} : StrsOwn w b (b + 1) ad 0 s := fun _ hi => absurd hi (Nat.not_lt_zero _)
theorem two_cell' {w w1 : World} {c0 c1 : Array Value} {t0 t1 : TypeId} (hb : Below ((w.alloc (.cells c0 t0)).alloc (.cells c1 t1)).heap.size ((w.alloc (.cells c0 t0)).alloc (.cells c1 t1)) w1) :
    (∀ i, w1.cell? ⟨w.heap.size, i, none⟩ = c0[i]?) ∧ (∀ i, w1.cell? ⟨w.heap.size + 1, i, none⟩ = c1[i]?) ∧ (∀ i, w1.frozen? ⟨w.heap.size, i, none⟩ = false) ∧ (∀ i, w1.frozen? ⟨w.heap.size + 1, i, none⟩ = false) := by
  refine ⟨fun i => ?_, fun i => ?_, fun i => ?_, fun i => ?_⟩
  · rw [hb.cell (p := ⟨w.heap.size, i, none⟩) (by simp; omega), World.cell?_alloc_past _ _ _ (by simp), World.cell?_alloc_new]
  · rw [hb.cell (p := ⟨w.heap.size + 1, i, none⟩) (by simp)]
    have := World.cell?_alloc_new (w.alloc (.cells c0 t0)) c1 t1 i
    rwa [World.size_alloc] at this
  · rw [hb.frozen (p := ⟨w.heap.size, i, none⟩) (by simp; omega)]
    simp
  · rw [hb.frozen (p := ⟨w.heap.size + 1, i, none⟩) (by simp)]
    simp
theorem FrP.setNew {P : Nat → Prop} {a w : World} (h : FrP P a w) {p : Addr} (hp : a.heap.size ≤ p.block ∨ P p.block) (u : Value) : FrP P a (w.setCell p u) :=
  ⟨h.os, h.tape, h.output, by rw [World.size_setCell]; exact h.size, fun k hk ho => (Below.heap_setCell _ _ _ _ (fun e => by
    rcases hp with hp | hp
    · rw [← e] at hp; omega
    · exact ho (e ▸ hp))).trans (h.block k hk ho)⟩
def updF {α : Type} (f : Nat → α) (k : Nat) (v : α) : Nat → α := fun i => if i = k then v else f i
theorem updF_same {α : Type} (f : Nat → α) (k : Nat) (v : α) : updF f k v k = v := if_pos rfl
theorem updF_ne {α : Type} (f : Nat → α) {k i : Nat} (v : α) (h : ¬ i = k) : updF f k v i = f i := if_neg h
/-- a list of which k elements have holds of their own -/
structure CpOb (w : World) (g n k : Nat) (x : Nat → Ob) (A0 A : Nat → Option Addr) (C hb : Nat → Nat) : Prop where
  row : 0 < n → ∃ c, RowF w g (n * 7) c ∧ ∀ i, i < n → atOb c i (x i) (A i) (C i)
  src : ∀ i, k ≤ i → i < n → A i = A0 i
  hold : ∀ i, i < k → StrsOwn w (hb i) (hb i + 1) (A i) (x i).hn (x i).hs
  hlt : ∀ i, i < k → (x i).hn ≠ 0 → g < hb i ∧ hb i < w.heap.size
  inj : ∀ i j, i < k → j < k → (x i).hn ≠ 0 → (x j).hn ≠ 0 → hb i = hb j → i = j
theorem CpOb.fr {w w' : World} {g n k : Nat} {x : Nat → Ob} {A0 A : Nat → Option Addr} {C hb : Nat → Nat} {P : Nat → Prop} (h : CpOb w g n k x A0 A C hb) (hf : FrP P w w') (hp : ∀ q, g ≤ q → q < w.heap.size → ¬ P q) : CpOb w' g n k x A0 A C hb :=
  ⟨fun h0 => by obtain ⟨c, r, e⟩ := h.row h0; exact ⟨c, r.fr hf (hp g (Nat.le_refl _) r.lt), e⟩, h.src, fun i hi => (h.hold i hi).frP hf (fun h0 => ⟨hp _ (Nat.le_of_lt (h.hlt i hi h0).1) (h.hlt i hi h0).2, (h.hlt i hi h0).2⟩), fun i hi h0 => ⟨(h.hlt i hi h0).1, Nat.lt_of_lt_of_le (h.hlt i hi h0).2 hf.size⟩, h.inj⟩
theorem CpOb.grow {w w' : World} {g n k : Nat} {x : Nat → Ob} {A0 A : Nat → Option Addr} {C hb : Nat → Nat} (h : CpOb w g n k x A0 A C hb) (hf : Below w.heap.size w w') : CpOb w' g n k x A0 A C hb := h.fr (FrP.of_below (P := fun _ => False) hf) (fun _ _ _ h => h)
theorem CpOb.put {w w1 : World} {g n k : Nat} {x : Nat → Ob} {A0 A : Nat → Option Addr} {C hb : Nat → Nat} (h : CpOb w g n k x A0 A C hb) (hk : k < n) (hb1 : Below w.heap.size w w1) {ad' : Option Addr} {cap' b' : Nat} (hb' : w.heap.size ≤ b') (hlt' : (x k).hn ≠ 0 → b' < w1.heap.size) (ho : StrsOwn w1 b' (b' + 1) ad' (x k).hn (x k).hs) :
    CpOb (((((((w1.setCell ⟨g, k * 7, none⟩ (.string (x k).kind)).setCell ⟨g, k * 7 + 1, none⟩ (.string (x k).name)).setCell ⟨g, k * 7 + 2, none⟩ (.int .i64 (x k).ver)).setCell ⟨g, k * 7 + 3, none⟩ (.int .i64 (x k).born)).setCell ⟨g, k * 7 + 4, none⟩ (.string (x k).text)).setCell ⟨g, k * 7 + 5, none⟩ (.bool (x k).ending)).setCell ⟨g, k * 7 + 6, none⟩ (.slice ad' (x k).hn cap')) g n (k + 1) x A0 (updF A k ad') (updF C k cap') (updF hb k b') := by
  obtain ⟨c, r, hat⟩ := h.row (by omega)
  have hgw := r.lt
  have F : FrP (fun q => q = g) w1 (((((((w1.setCell ⟨g, k * 7, none⟩ (.string (x k).kind)).setCell ⟨g, k * 7 + 1, none⟩ (.string (x k).name)).setCell ⟨g, k * 7 + 2, none⟩ (.int .i64 (x k).ver)).setCell ⟨g, k * 7 + 3, none⟩ (.int .i64 (x k).born)).setCell ⟨g, k * 7 + 4, none⟩ (.string (x k).text)).setCell ⟨g, k * 7 + 5, none⟩ (.bool (x k).ending)).setCell ⟨g, k * 7 + 6, none⟩ (.slice ad' (x k).hn cap')) := by
    iterate 7 refine FrP.setCell (P := fun q => q = g) ?_ (by rfl) _
    exact FrP.refl _ _
  refine ⟨fun _ => ⟨_, ((((((((r.below hb1 hgw).set (o := k * 7) (by omega) _).set (o := k * 7 + 1) (by omega) _).set (o := k * 7 + 2) (by omega) _).set (o := k * 7 + 3) (by omega) _).set (o := k * 7 + 4) (by omega) _).set (o := k * 7 + 5) (by omega) _).set (o := k * 7 + 6) (by omega) _), fun i hi => ?_⟩, fun i h1 h2 => ?_, fun i hi => ?_, fun i hi h0 => ?_, fun i j hi hj h0 h1 e => ?_⟩
  · by_cases e : i = k
    · subst e
      have a0 := hat i hi
      rw [updF_same, updF_same]
      refine ⟨?_, ?_, ?_, ?_, ?_, ?_, ?_⟩
      all_goals simp [setF]
    · rw [updF_ne _ _ e, updF_ne _ _ e]
      exact (atOb_set (atOb_set (atOb_set (atOb_set (atOb_set (atOb_set (atOb_set (hat i hi) e (k := k) (by omega) (by omega) _) e (k := k) (by omega) (by omega) _) e (k := k) (by omega) (by omega) _) e (k := k) (by omega) (by omega) _) e (k := k) (by omega) (by omega) _) e (k := k) (by omega) (by omega) _) e (k := k) (by omega) (by omega) _)
  · rw [updF_ne _ _ (by omega)]
    exact h.src i (by omega) h2
  · by_cases e : i = k
    · subst e
      rw [updF_same, updF_same]
      exact ho.frP (P := fun q => q = g) F (fun h0 => ⟨by omega, hlt' h0⟩)
    · rw [updF_ne _ _ e, updF_ne _ _ e]
      exact (h.hold i (by omega)).frP (P := fun q => q = g) ((FrP.of_below hb1).trans F) (fun h0 => ⟨fun e => Nat.lt_irrefl _ (e ▸ (h.hlt i (by omega) h0).1), (h.hlt i (by omega) h0).2⟩)
  · simp only [World.size_setCell]
    by_cases e : i = k
    · subst e
      rw [updF_same]
      exact ⟨by omega, hlt' h0⟩
    · rw [updF_ne _ _ e]
      exact ⟨(h.hlt i (by omega) h0).1, Nat.lt_of_lt_of_le (h.hlt i (by omega) h0).2 hb1.size⟩
  · by_cases e1 : i = k
    · by_cases e2 : j = k
      · rw [e1, e2]
      · subst e1
        rw [updF_same, updF_ne _ _ e2] at e
        have := (h.hlt j (by omega) h1).2
        omega
    · by_cases e2 : j = k
      · subst e2
        rw [updF_same, updF_ne _ _ e1] at e
        have := (h.hlt i (by omega) h0).2
        omega
      · rw [updF_ne _ _ e1, updF_ne _ _ e2] at e
        exact h.inj i j (by omega) (by omega) h0 h1 e
theorem CpOb.done {w : World} {ad : Option Addr} {g n : Nat} {x : Nat → Ob} {A0 A : Nat → Option Addr} {C hb : Nat → Nat} (h : CpOb w g n n x A0 A C hb) (ha : 0 < n → ad = some ⟨g, 0, none⟩) : ObsAt w ad g n x A C hb :=
  ⟨ha, h.row, h.hold, fun i hi h0 => (h.hlt i hi h0).2, ⟨fun i hi h0 e => Nat.lt_irrefl _ (e ▸ (h.hlt i hi h0).1), h.inj⟩⟩
theorem CpOb.rng {w : World} {g n : Nat} {x : Nat → Ob} {A0 A : Nat → Option Addr} {C hb : Nat → Nat} (h : CpOb w g n n x A0 A C hb) {k : Nat} (hk : blkH g n (fun i => (x i).hn) hb k) : g ≤ k ∧ k < w.heap.size := by
  rcases hk with ⟨h0, rfl⟩ | ⟨i, hi, h0, rfl⟩
  · obtain ⟨c, r, _⟩ := h.row h0; exact ⟨Nat.le_refl _, r.lt⟩
  · exact ⟨Nat.le_of_lt (h.hlt i hi h0).1, (h.hlt i hi h0).2⟩
/-- a list of which k elements have holds of their own -/
structure CpCh (w : World) (g n k : Nat) (x : Nat → Ch) (A0 A : Nat → Option Addr) (C hb : Nat → Nat) : Prop where
  row : 0 < n → ∃ c, RowF w g (n * 9) c ∧ ∀ i, i < n → atCh c i (x i) (A i) (C i)
  src : ∀ i, k ≤ i → i < n → A i = A0 i
  hold : ∀ i, i < k → StrsOwn w (hb i) (hb i + 1) (A i) (x i).ob.hn (x i).ob.hs
  hlt : ∀ i, i < k → (x i).ob.hn ≠ 0 → g < hb i ∧ hb i < w.heap.size
  inj : ∀ i j, i < k → j < k → (x i).ob.hn ≠ 0 → (x j).ob.hn ≠ 0 → hb i = hb j → i = j
theorem CpCh.fr {w w' : World} {g n k : Nat} {x : Nat → Ch} {A0 A : Nat → Option Addr} {C hb : Nat → Nat} {P : Nat → Prop} (h : CpCh w g n k x A0 A C hb) (hf : FrP P w w') (hp : ∀ q, g ≤ q → q < w.heap.size → ¬ P q) : CpCh w' g n k x A0 A C hb :=
  ⟨fun h0 => by obtain ⟨c, r, e⟩ := h.row h0; exact ⟨c, r.fr hf (hp g (Nat.le_refl _) r.lt), e⟩, h.src, fun i hi => (h.hold i hi).frP hf (fun h0 => ⟨hp _ (Nat.le_of_lt (h.hlt i hi h0).1) (h.hlt i hi h0).2, (h.hlt i hi h0).2⟩), fun i hi h0 => ⟨(h.hlt i hi h0).1, Nat.lt_of_lt_of_le (h.hlt i hi h0).2 hf.size⟩, h.inj⟩
theorem CpCh.grow {w w' : World} {g n k : Nat} {x : Nat → Ch} {A0 A : Nat → Option Addr} {C hb : Nat → Nat} (h : CpCh w g n k x A0 A C hb) (hf : Below w.heap.size w w') : CpCh w' g n k x A0 A C hb := h.fr (FrP.of_below (P := fun _ => False) hf) (fun _ _ _ h => h)
theorem CpCh.put {w w1 : World} {g n k : Nat} {x : Nat → Ch} {A0 A : Nat → Option Addr} {C hb : Nat → Nat} (h : CpCh w g n k x A0 A C hb) (hk : k < n) (hb1 : Below w.heap.size w w1) {ad' : Option Addr} {cap' b' : Nat} (hb' : w.heap.size ≤ b') (hlt' : (x k).ob.hn ≠ 0 → b' < w1.heap.size) (ho : StrsOwn w1 b' (b' + 1) ad' (x k).ob.hn (x k).ob.hs) :
    CpCh (((((((w1.setCell ⟨g, k * 9 + 2, none⟩ (.string (x k).ob.kind)).setCell ⟨g, k * 9 + 3, none⟩ (.string (x k).ob.name)).setCell ⟨g, k * 9 + 4, none⟩ (.int .i64 (x k).ob.ver)).setCell ⟨g, k * 9 + 5, none⟩ (.int .i64 (x k).ob.born)).setCell ⟨g, k * 9 + 6, none⟩ (.string (x k).ob.text)).setCell ⟨g, k * 9 + 7, none⟩ (.bool (x k).ob.ending)).setCell ⟨g, k * 9 + 8, none⟩ (.slice ad' (x k).ob.hn cap')) g n (k + 1) x A0 (updF A k ad') (updF C k cap') (updF hb k b') := by
  obtain ⟨c, r, hat⟩ := h.row (by omega)
  have hgw := r.lt
  have F : FrP (fun q => q = g) w1 (((((((w1.setCell ⟨g, k * 9 + 2, none⟩ (.string (x k).ob.kind)).setCell ⟨g, k * 9 + 3, none⟩ (.string (x k).ob.name)).setCell ⟨g, k * 9 + 4, none⟩ (.int .i64 (x k).ob.ver)).setCell ⟨g, k * 9 + 5, none⟩ (.int .i64 (x k).ob.born)).setCell ⟨g, k * 9 + 6, none⟩ (.string (x k).ob.text)).setCell ⟨g, k * 9 + 7, none⟩ (.bool (x k).ob.ending)).setCell ⟨g, k * 9 + 8, none⟩ (.slice ad' (x k).ob.hn cap')) := by
    iterate 7 refine FrP.setCell (P := fun q => q = g) ?_ (by rfl) _
    exact FrP.refl _ _
  refine ⟨fun _ => ⟨_, ((((((((r.below hb1 hgw).set (o := k * 9 + 2) (by omega) _).set (o := k * 9 + 3) (by omega) _).set (o := k * 9 + 4) (by omega) _).set (o := k * 9 + 5) (by omega) _).set (o := k * 9 + 6) (by omega) _).set (o := k * 9 + 7) (by omega) _).set (o := k * 9 + 8) (by omega) _), fun i hi => ?_⟩, fun i h1 h2 => ?_, fun i hi => ?_, fun i hi h0 => ?_, fun i j hi hj h0 h1 e => ?_⟩
  · by_cases e : i = k
    · subst e
      have a0 := hat i hi
      rw [updF_same, updF_same]
      refine ⟨?_, ?_, ?_, ?_, ?_, ?_, ?_, ?_, ?_⟩
      · exact Eq.trans (by simp [setF]) a0.1
      · exact Eq.trans (by simp [setF]) a0.2.1
      all_goals simp [setF]
    · rw [updF_ne _ _ e, updF_ne _ _ e]
      exact (atCh_set (atCh_set (atCh_set (atCh_set (atCh_set (atCh_set (atCh_set (hat i hi) e (k := k) (by omega) (by omega) _) e (k := k) (by omega) (by omega) _) e (k := k) (by omega) (by omega) _) e (k := k) (by omega) (by omega) _) e (k := k) (by omega) (by omega) _) e (k := k) (by omega) (by omega) _) e (k := k) (by omega) (by omega) _)
  · rw [updF_ne _ _ (by omega)]
    exact h.src i (by omega) h2
  · by_cases e : i = k
    · subst e
      rw [updF_same, updF_same]
      exact ho.frP (P := fun q => q = g) F (fun h0 => ⟨by omega, hlt' h0⟩)
    · rw [updF_ne _ _ e, updF_ne _ _ e]
      exact (h.hold i (by omega)).frP (P := fun q => q = g) ((FrP.of_below hb1).trans F) (fun h0 => ⟨fun e => Nat.lt_irrefl _ (e ▸ (h.hlt i (by omega) h0).1), (h.hlt i (by omega) h0).2⟩)
  · simp only [World.size_setCell]
    by_cases e : i = k
    · subst e
      rw [updF_same]
      exact ⟨by omega, hlt' h0⟩
    · rw [updF_ne _ _ e]
      exact ⟨(h.hlt i (by omega) h0).1, Nat.lt_of_lt_of_le (h.hlt i (by omega) h0).2 hb1.size⟩
  · by_cases e1 : i = k
    · by_cases e2 : j = k
      · rw [e1, e2]
      · subst e1
        rw [updF_same, updF_ne _ _ e2] at e
        have := (h.hlt j (by omega) h1).2
        omega
    · by_cases e2 : j = k
      · subst e2
        rw [updF_same, updF_ne _ _ e1] at e
        have := (h.hlt i (by omega) h0).2
        omega
      · rw [updF_ne _ _ e1, updF_ne _ _ e2] at e
        exact h.inj i j (by omega) (by omega) h0 h1 e
theorem CpCh.done {w : World} {ad : Option Addr} {g n : Nat} {x : Nat → Ch} {A0 A : Nat → Option Addr} {C hb : Nat → Nat} (h : CpCh w g n n x A0 A C hb) (ha : 0 < n → ad = some ⟨g, 0, none⟩) : ChsAt w ad g n x A C hb :=
  ⟨ha, h.row, h.hold, fun i hi h0 => (h.hlt i hi h0).2, ⟨fun i hi h0 e => Nat.lt_irrefl _ (e ▸ (h.hlt i hi h0).1), h.inj⟩⟩
theorem CpCh.rng {w : World} {g n : Nat} {x : Nat → Ch} {A0 A : Nat → Option Addr} {C hb : Nat → Nat} (h : CpCh w g n n x A0 A C hb) {k : Nat} (hk : blkH g n (fun i => (x i).ob.hn) hb k) : g ≤ k ∧ k < w.heap.size := by
  rcases hk with ⟨h0, rfl⟩ | ⟨i, hi, h0, rfl⟩
  · obtain ⟨c, r, _⟩ := h.row h0; exact ⟨Nat.le_refl _, r.lt⟩
  · exact ⟨Nat.le_of_lt (h.hlt i hi h0).1, (h.hlt i hi h0).2⟩
theorem skol {β : Type} {n : Nat} (d : β) {p : Nat → β → Prop} (h : ∀ i, i < n → ∃ x, p i x) : ∃ f : Nat → β, ∀ i, i < n → p i (f i) := by
  have h' : ∀ i, ∃ x, i < n → p i x := fun i => by
    by_cases hi : i < n
    · obtain ⟨x, hx⟩ := h i hi; exact ⟨x, fun _ => hx⟩
    · exact ⟨d, fun e => absurd e hi⟩
  obtain ⟨f, hf⟩ := Classical.skolem.1 h'
  exact ⟨f, hf⟩
theorem ObjsIn.src {w : World} {lo hi : Nat} {ad : Option Addr} {n : Nat} {x : Nat → Ob} (h : ObjsIn w lo hi ad n x) : ∃ (c : Nat → Value) (A : Nat → Option Addr) (C : Nat → Nat), SrcRow w lo hi ad (n * 7) c ∧ (∀ i, i < n → atOb c i (x i) (A i) (C i)) ∧ (∀ i, i < n → StrsIn w lo hi (A i) (x i).hn (x i).hs) := by
  obtain ⟨F, hF⟩ := skol (n := n) ((none, 0) : (Option Addr × Nat)) (p := fun i q => (∃ b off, ad = some ⟨b, off, none⟩ ∧ lo ≤ b ∧ b < hi ∧ ObCells w b (off + i * 7) (x i) q.1 q.2) ∧ StrsIn w lo hi q.1 (x i).hn (x i).hs) (fun i hi' => by
    obtain ⟨b, off, ah, ch, e1, e2, e3, e4, e5⟩ := h i hi'
    exact ⟨(ah, ch), ⟨b, off, e1, e2, e3, e4⟩, e5⟩)
  have key : ∀ i, i < n → ∃ b off, ad = some ⟨b, off, none⟩ ∧ lo ≤ b ∧ b < hi ∧ w.cell? ⟨b, off + i * 7, none⟩ = some (.string (x i).kind) ∧ w.cell? ⟨b, off + i * 7 + 1, none⟩ = some (.string (x i).name) ∧ w.cell? ⟨b, off + i * 7 + 2, none⟩ = some (.int .i64 (x i).ver) ∧ w.cell? ⟨b, off + i * 7 + 3, none⟩ = some (.int .i64 (x i).born) ∧ w.cell? ⟨b, off + i * 7 + 4, none⟩ = some (.string (x i).text) ∧ w.cell? ⟨b, off + i * 7 + 5, none⟩ = some (.bool (x i).ending) ∧ w.cell? ⟨b, off + i * 7 + 6, none⟩ = some (.slice (F i).1 (x i).hn (F i).2) := fun i hi' => by
    obtain ⟨⟨b, off, e1, e2, e3, e4⟩, _⟩ := hF i hi'
    exact ⟨b, off, e1, e2, e3, e4.c0, e4.c1, e4.c2, e4.c3, e4.c4, e4.c5, e4.c6⟩
  let c : Nat → Value := fun j => match ad with
    | some a => (w.cell? ⟨a.block, a.off + j, none⟩).getD (.int .i64 0)
    | none => .int .i64 0
  refine ⟨c, fun i => (F i).1, fun i => (F i).2, ⟨fun j hj => ?_, fun j hj => ?_⟩, fun i hi' => ?_, fun i hi' => (hF i hi').2⟩
  · obtain ⟨b, off, e1, e2, e3, f0, f1, f2, f3, f4, f5, f6⟩ := key (j / 7) (by omega)
    subst e1
    rcases (show j % 7 = 0 ∨ j % 7 = 1 ∨ j % 7 = 2 ∨ j % 7 = 3 ∨ j % 7 = 4 ∨ j % 7 = 5 ∨ j % 7 = 6 by omega) with hr | hr | hr | hr | hr | hr | hr
    · have ej : off + j = off + j / 7 * 7 := by omega
      have hcj : c j = .string (x (j / 7)).kind := by
        show (w.cell? ⟨b, off + j, none⟩).getD _ = _
        rw [ej, f0]; rfl
      exact ⟨b, off, rfl, e2, e3, by rw [hcj, ej]; exact f0⟩
    · have ej : off + j = off + j / 7 * 7 + 1 := by omega
      have hcj : c j = .string (x (j / 7)).name := by
        show (w.cell? ⟨b, off + j, none⟩).getD _ = _
        rw [ej, f1]; rfl
      exact ⟨b, off, rfl, e2, e3, by rw [hcj, ej]; exact f1⟩
    · have ej : off + j = off + j / 7 * 7 + 2 := by omega
      have hcj : c j = .int .i64 (x (j / 7)).ver := by
        show (w.cell? ⟨b, off + j, none⟩).getD _ = _
        rw [ej, f2]; rfl
      exact ⟨b, off, rfl, e2, e3, by rw [hcj, ej]; exact f2⟩
    · have ej : off + j = off + j / 7 * 7 + 3 := by omega
      have hcj : c j = .int .i64 (x (j / 7)).born := by
        show (w.cell? ⟨b, off + j, none⟩).getD _ = _
        rw [ej, f3]; rfl
      exact ⟨b, off, rfl, e2, e3, by rw [hcj, ej]; exact f3⟩
    · have ej : off + j = off + j / 7 * 7 + 4 := by omega
      have hcj : c j = .string (x (j / 7)).text := by
        show (w.cell? ⟨b, off + j, none⟩).getD _ = _
        rw [ej, f4]; rfl
      exact ⟨b, off, rfl, e2, e3, by rw [hcj, ej]; exact f4⟩
    · have ej : off + j = off + j / 7 * 7 + 5 := by omega
      have hcj : c j = .bool (x (j / 7)).ending := by
        show (w.cell? ⟨b, off + j, none⟩).getD _ = _
        rw [ej, f5]; rfl
      exact ⟨b, off, rfl, e2, e3, by rw [hcj, ej]; exact f5⟩
    · have ej : off + j = off + j / 7 * 7 + 6 := by omega
      have hcj : c j = .slice (F (j / 7)).1 (x (j / 7)).hn (F (j / 7)).2 := by
        show (w.cell? ⟨b, off + j, none⟩).getD _ = _
        rw [ej, f6]; rfl
      exact ⟨b, off, rfl, e2, e3, by rw [hcj, ej]; exact f6⟩
  · obtain ⟨b, off, e1, e2, e3, f0, f1, f2, f3, f4, f5, f6⟩ := key (j / 7) (by omega)
    subst e1
    rcases (show j % 7 = 0 ∨ j % 7 = 1 ∨ j % 7 = 2 ∨ j % 7 = 3 ∨ j % 7 = 4 ∨ j % 7 = 5 ∨ j % 7 = 6 by omega) with hr | hr | hr | hr | hr | hr | hr
    · have ej : off + j = off + j / 7 * 7 := by omega
      have hcj : c j = .string (x (j / 7)).kind := by
        show (w.cell? ⟨b, off + j, none⟩).getD _ = _
        rw [ej, f0]; rfl
      rw [hcj]; rfl
    · have ej : off + j = off + j / 7 * 7 + 1 := by omega
      have hcj : c j = .string (x (j / 7)).name := by
        show (w.cell? ⟨b, off + j, none⟩).getD _ = _
        rw [ej, f1]; rfl
      rw [hcj]; rfl
    · have ej : off + j = off + j / 7 * 7 + 2 := by omega
      have hcj : c j = .int .i64 (x (j / 7)).ver := by
        show (w.cell? ⟨b, off + j, none⟩).getD _ = _
        rw [ej, f2]; rfl
      rw [hcj]; rfl
    · have ej : off + j = off + j / 7 * 7 + 3 := by omega
      have hcj : c j = .int .i64 (x (j / 7)).born := by
        show (w.cell? ⟨b, off + j, none⟩).getD _ = _
        rw [ej, f3]; rfl
      rw [hcj]; rfl
    · have ej : off + j = off + j / 7 * 7 + 4 := by omega
      have hcj : c j = .string (x (j / 7)).text := by
        show (w.cell? ⟨b, off + j, none⟩).getD _ = _
        rw [ej, f4]; rfl
      rw [hcj]; rfl
    · have ej : off + j = off + j / 7 * 7 + 5 := by omega
      have hcj : c j = .bool (x (j / 7)).ending := by
        show (w.cell? ⟨b, off + j, none⟩).getD _ = _
        rw [ej, f5]; rfl
      rw [hcj]; rfl
    · have ej : off + j = off + j / 7 * 7 + 6 := by omega
      have hcj : c j = .slice (F (j / 7)).1 (x (j / 7)).hn (F (j / 7)).2 := by
        show (w.cell? ⟨b, off + j, none⟩).getD _ = _
        rw [ej, f6]; rfl
      rw [hcj]; rfl
  · obtain ⟨b, off, e1, e2, e3, f0, f1, f2, f3, f4, f5, f6⟩ := key i hi'
    subst e1
    have hc : ∀ j v, w.cell? ⟨b, off + j, none⟩ = some v → c j = v := fun j v h => by
      show (w.cell? ⟨b, off + j, none⟩).getD _ = _
      rw [h]; rfl
    exact ⟨hc (i * 7) _ (by exact f0), hc (i * 7 + 1) _ (by rw [← Nat.add_assoc]; exact f1), hc (i * 7 + 2) _ (by rw [← Nat.add_assoc]; exact f2), hc (i * 7 + 3) _ (by rw [← Nat.add_assoc]; exact f3), hc (i * 7 + 4) _ (by rw [← Nat.add_assoc]; exact f4), hc (i * 7 + 5) _ (by rw [← Nat.add_assoc]; exact f5), hc (i * 7 + 6) _ (by rw [← Nat.add_assoc]; exact f6)⟩
theorem ChgsIn.src {w : World} {lo hi : Nat} {ad : Option Addr} {n : Nat} {x : Nat → Ch} (h : ChgsIn w lo hi ad n x) : ∃ (c : Nat → Value) (A : Nat → Option Addr) (C : Nat → Nat), SrcRow w lo hi ad (n * 9) c ∧ (∀ i, i < n → atCh c i (x i) (A i) (C i)) ∧ (∀ i, i < n → StrsIn w lo hi (A i) (x i).ob.hn (x i).ob.hs) := by
  obtain ⟨F, hF⟩ := skol (n := n) ((none, 0) : (Option Addr × Nat)) (p := fun i q => (∃ b off, ad = some ⟨b, off, none⟩ ∧ lo ≤ b ∧ b < hi ∧ ChCells w b (off + i * 9) (x i) q.1 q.2) ∧ StrsIn w lo hi q.1 (x i).ob.hn (x i).ob.hs) (fun i hi' => by
    obtain ⟨b, off, ah, ch, e1, e2, e3, e4, e5⟩ := h i hi'
    exact ⟨(ah, ch), ⟨b, off, e1, e2, e3, e4⟩, e5⟩)
  have key : ∀ i, i < n → ∃ b off, ad = some ⟨b, off, none⟩ ∧ lo ≤ b ∧ b < hi ∧ w.cell? ⟨b, off + i * 9, none⟩ = some (.int .i64 (x i).ver) ∧ w.cell? ⟨b, off + i * 9 + 1, none⟩ = some (.bool (x i).gone) ∧ w.cell? ⟨b, off + i * 9 + 2, none⟩ = some (.string (x i).ob.kind) ∧ w.cell? ⟨b, off + i * 9 + 3, none⟩ = some (.string (x i).ob.name) ∧ w.cell? ⟨b, off + i * 9 + 4, none⟩ = some (.int .i64 (x i).ob.ver) ∧ w.cell? ⟨b, off + i * 9 + 5, none⟩ = some (.int .i64 (x i).ob.born) ∧ w.cell? ⟨b, off + i * 9 + 6, none⟩ = some (.string (x i).ob.text) ∧ w.cell? ⟨b, off + i * 9 + 7, none⟩ = some (.bool (x i).ob.ending) ∧ w.cell? ⟨b, off + i * 9 + 8, none⟩ = some (.slice (F i).1 (x i).ob.hn (F i).2) := fun i hi' => by
    obtain ⟨⟨b, off, e1, e2, e3, e4⟩, _⟩ := hF i hi'
    exact ⟨b, off, e1, e2, e3, e4.c0, e4.c1, e4.c2, e4.c3, e4.c4, e4.c5, e4.c6, e4.c7, e4.c8⟩
  let c : Nat → Value := fun j => match ad with
    | some a => (w.cell? ⟨a.block, a.off + j, none⟩).getD (.int .i64 0)
    | none => .int .i64 0
  refine ⟨c, fun i => (F i).1, fun i => (F i).2, ⟨fun j hj => ?_, fun j hj => ?_⟩, fun i hi' => ?_, fun i hi' => (hF i hi').2⟩
  · obtain ⟨b, off, e1, e2, e3, f0, f1, f2, f3, f4, f5, f6, f7, f8⟩ := key (j / 9) (by omega)
    subst e1
    rcases (show j % 9 = 0 ∨ j % 9 = 1 ∨ j % 9 = 2 ∨ j % 9 = 3 ∨ j % 9 = 4 ∨ j % 9 = 5 ∨ j % 9 = 6 ∨ j % 9 = 7 ∨ j % 9 = 8 by omega) with hr | hr | hr | hr | hr | hr | hr | hr | hr
    · have ej : off + j = off + j / 9 * 9 := by omega
      have hcj : c j = .int .i64 (x (j / 9)).ver := by
        show (w.cell? ⟨b, off + j, none⟩).getD _ = _
        rw [ej, f0]; rfl
      exact ⟨b, off, rfl, e2, e3, by rw [hcj, ej]; exact f0⟩
    · have ej : off + j = off + j / 9 * 9 + 1 := by omega
      have hcj : c j = .bool (x (j / 9)).gone := by
        show (w.cell? ⟨b, off + j, none⟩).getD _ = _
        rw [ej, f1]; rfl
      exact ⟨b, off, rfl, e2, e3, by rw [hcj, ej]; exact f1⟩
    · have ej : off + j = off + j / 9 * 9 + 2 := by omega
      have hcj : c j = .string (x (j / 9)).ob.kind := by
        show (w.cell? ⟨b, off + j, none⟩).getD _ = _
        rw [ej, f2]; rfl
      exact ⟨b, off, rfl, e2, e3, by rw [hcj, ej]; exact f2⟩
    · have ej : off + j = off + j / 9 * 9 + 3 := by omega
      have hcj : c j = .string (x (j / 9)).ob.name := by
        show (w.cell? ⟨b, off + j, none⟩).getD _ = _
        rw [ej, f3]; rfl
      exact ⟨b, off, rfl, e2, e3, by rw [hcj, ej]; exact f3⟩
    · have ej : off + j = off + j / 9 * 9 + 4 := by omega
      have hcj : c j = .int .i64 (x (j / 9)).ob.ver := by
        show (w.cell? ⟨b, off + j, none⟩).getD _ = _
        rw [ej, f4]; rfl
      exact ⟨b, off, rfl, e2, e3, by rw [hcj, ej]; exact f4⟩
    · have ej : off + j = off + j / 9 * 9 + 5 := by omega
      have hcj : c j = .int .i64 (x (j / 9)).ob.born := by
        show (w.cell? ⟨b, off + j, none⟩).getD _ = _
        rw [ej, f5]; rfl
      exact ⟨b, off, rfl, e2, e3, by rw [hcj, ej]; exact f5⟩
    · have ej : off + j = off + j / 9 * 9 + 6 := by omega
      have hcj : c j = .string (x (j / 9)).ob.text := by
        show (w.cell? ⟨b, off + j, none⟩).getD _ = _
        rw [ej, f6]; rfl
      exact ⟨b, off, rfl, e2, e3, by rw [hcj, ej]; exact f6⟩
    · have ej : off + j = off + j / 9 * 9 + 7 := by omega
      have hcj : c j = .bool (x (j / 9)).ob.ending := by
        show (w.cell? ⟨b, off + j, none⟩).getD _ = _
        rw [ej, f7]; rfl
      exact ⟨b, off, rfl, e2, e3, by rw [hcj, ej]; exact f7⟩
    · have ej : off + j = off + j / 9 * 9 + 8 := by omega
      have hcj : c j = .slice (F (j / 9)).1 (x (j / 9)).ob.hn (F (j / 9)).2 := by
        show (w.cell? ⟨b, off + j, none⟩).getD _ = _
        rw [ej, f8]; rfl
      exact ⟨b, off, rfl, e2, e3, by rw [hcj, ej]; exact f8⟩
  · obtain ⟨b, off, e1, e2, e3, f0, f1, f2, f3, f4, f5, f6, f7, f8⟩ := key (j / 9) (by omega)
    subst e1
    rcases (show j % 9 = 0 ∨ j % 9 = 1 ∨ j % 9 = 2 ∨ j % 9 = 3 ∨ j % 9 = 4 ∨ j % 9 = 5 ∨ j % 9 = 6 ∨ j % 9 = 7 ∨ j % 9 = 8 by omega) with hr | hr | hr | hr | hr | hr | hr | hr | hr
    · have ej : off + j = off + j / 9 * 9 := by omega
      have hcj : c j = .int .i64 (x (j / 9)).ver := by
        show (w.cell? ⟨b, off + j, none⟩).getD _ = _
        rw [ej, f0]; rfl
      rw [hcj]; rfl
    · have ej : off + j = off + j / 9 * 9 + 1 := by omega
      have hcj : c j = .bool (x (j / 9)).gone := by
        show (w.cell? ⟨b, off + j, none⟩).getD _ = _
        rw [ej, f1]; rfl
      rw [hcj]; rfl
    · have ej : off + j = off + j / 9 * 9 + 2 := by omega
      have hcj : c j = .string (x (j / 9)).ob.kind := by
        show (w.cell? ⟨b, off + j, none⟩).getD _ = _
        rw [ej, f2]; rfl
      rw [hcj]; rfl
    · have ej : off + j = off + j / 9 * 9 + 3 := by omega
      have hcj : c j = .string (x (j / 9)).ob.name := by
        show (w.cell? ⟨b, off + j, none⟩).getD _ = _
        rw [ej, f3]; rfl
      rw [hcj]; rfl
    · have ej : off + j = off + j / 9 * 9 + 4 := by omega
      have hcj : c j = .int .i64 (x (j / 9)).ob.ver := by
        show (w.cell? ⟨b, off + j, none⟩).getD _ = _
        rw [ej, f4]; rfl
      rw [hcj]; rfl
    · have ej : off + j = off + j / 9 * 9 + 5 := by omega
      have hcj : c j = .int .i64 (x (j / 9)).ob.born := by
        show (w.cell? ⟨b, off + j, none⟩).getD _ = _
        rw [ej, f5]; rfl
      rw [hcj]; rfl
    · have ej : off + j = off + j / 9 * 9 + 6 := by omega
      have hcj : c j = .string (x (j / 9)).ob.text := by
        show (w.cell? ⟨b, off + j, none⟩).getD _ = _
        rw [ej, f6]; rfl
      rw [hcj]; rfl
    · have ej : off + j = off + j / 9 * 9 + 7 := by omega
      have hcj : c j = .bool (x (j / 9)).ob.ending := by
        show (w.cell? ⟨b, off + j, none⟩).getD _ = _
        rw [ej, f7]; rfl
      rw [hcj]; rfl
    · have ej : off + j = off + j / 9 * 9 + 8 := by omega
      have hcj : c j = .slice (F (j / 9)).1 (x (j / 9)).ob.hn (F (j / 9)).2 := by
        show (w.cell? ⟨b, off + j, none⟩).getD _ = _
        rw [ej, f8]; rfl
      rw [hcj]; rfl
  · obtain ⟨b, off, e1, e2, e3, f0, f1, f2, f3, f4, f5, f6, f7, f8⟩ := key i hi'
    subst e1
    have hc : ∀ j v, w.cell? ⟨b, off + j, none⟩ = some v → c j = v := fun j v h => by
      show (w.cell? ⟨b, off + j, none⟩).getD _ = _
      rw [h]; rfl
    exact ⟨hc (i * 9) _ (by exact f0), hc (i * 9 + 1) _ (by rw [← Nat.add_assoc]; exact f1), hc (i * 9 + 2) _ (by rw [← Nat.add_assoc]; exact f2), hc (i * 9 + 3) _ (by rw [← Nat.add_assoc]; exact f3), hc (i * 9 + 4) _ (by rw [← Nat.add_assoc]; exact f4), hc (i * 9 + 5) _ (by rw [← Nat.add_assoc]; exact f5), hc (i * 9 + 6) _ (by rw [← Nat.add_assoc]; exact f6), hc (i * 9 + 7) _ (by rw [← Nat.add_assoc]; exact f7), hc (i * 9 + 8) _ (by rw [← Nat.add_assoc]; exact f8)⟩
theorem TicsIn.src {w : World} {lo hi : Nat} {ad : Option Addr} {n : Nat} {x : Nat → Ti} (h : TicsIn w lo hi ad n x) : ∃ (c : Nat → Value), SrcRow w lo hi ad (n * 5) c ∧ (∀ i, i < n → atTi c i (x i)) := by
  have hF : ∀ i, i < n → (∃ b off, ad = some ⟨b, off, none⟩ ∧ lo ≤ b ∧ b < hi ∧ TiCells w b (off + i * 5) (x i)) := h
  have key : ∀ i, i < n → ∃ b off, ad = some ⟨b, off, none⟩ ∧ lo ≤ b ∧ b < hi ∧ w.cell? ⟨b, off + i * 5, none⟩ = some (.string (x i).client) ∧ w.cell? ⟨b, off + i * 5 + 1, none⟩ = some (.int .i64 (x i).num) ∧ w.cell? ⟨b, off + i * 5 + 2, none⟩ = some (.string (x i).print) ∧ w.cell? ⟨b, off + i * 5 + 3, none⟩ = some (.int .i64 (x i).code) ∧ w.cell? ⟨b, off + i * 5 + 4, none⟩ = some (.int .i64 (x i).ver) := fun i hi' => by
    obtain ⟨b, off, e1, e2, e3, e4⟩ := hF i hi'
    exact ⟨b, off, e1, e2, e3, e4.c0, e4.c1, e4.c2, e4.c3, e4.c4⟩
  let c : Nat → Value := fun j => match ad with
    | some a => (w.cell? ⟨a.block, a.off + j, none⟩).getD (.int .i64 0)
    | none => .int .i64 0
  refine ⟨c, ⟨fun j hj => ?_, fun j hj => ?_⟩, fun i hi' => ?_⟩
  · obtain ⟨b, off, e1, e2, e3, f0, f1, f2, f3, f4⟩ := key (j / 5) (by omega)
    subst e1
    rcases (show j % 5 = 0 ∨ j % 5 = 1 ∨ j % 5 = 2 ∨ j % 5 = 3 ∨ j % 5 = 4 by omega) with hr | hr | hr | hr | hr
    · have ej : off + j = off + j / 5 * 5 := by omega
      have hcj : c j = .string (x (j / 5)).client := by
        show (w.cell? ⟨b, off + j, none⟩).getD _ = _
        rw [ej, f0]; rfl
      exact ⟨b, off, rfl, e2, e3, by rw [hcj, ej]; exact f0⟩
    · have ej : off + j = off + j / 5 * 5 + 1 := by omega
      have hcj : c j = .int .i64 (x (j / 5)).num := by
        show (w.cell? ⟨b, off + j, none⟩).getD _ = _
        rw [ej, f1]; rfl
      exact ⟨b, off, rfl, e2, e3, by rw [hcj, ej]; exact f1⟩
    · have ej : off + j = off + j / 5 * 5 + 2 := by omega
      have hcj : c j = .string (x (j / 5)).print := by
        show (w.cell? ⟨b, off + j, none⟩).getD _ = _
        rw [ej, f2]; rfl
      exact ⟨b, off, rfl, e2, e3, by rw [hcj, ej]; exact f2⟩
    · have ej : off + j = off + j / 5 * 5 + 3 := by omega
      have hcj : c j = .int .i64 (x (j / 5)).code := by
        show (w.cell? ⟨b, off + j, none⟩).getD _ = _
        rw [ej, f3]; rfl
      exact ⟨b, off, rfl, e2, e3, by rw [hcj, ej]; exact f3⟩
    · have ej : off + j = off + j / 5 * 5 + 4 := by omega
      have hcj : c j = .int .i64 (x (j / 5)).ver := by
        show (w.cell? ⟨b, off + j, none⟩).getD _ = _
        rw [ej, f4]; rfl
      exact ⟨b, off, rfl, e2, e3, by rw [hcj, ej]; exact f4⟩
  · obtain ⟨b, off, e1, e2, e3, f0, f1, f2, f3, f4⟩ := key (j / 5) (by omega)
    subst e1
    rcases (show j % 5 = 0 ∨ j % 5 = 1 ∨ j % 5 = 2 ∨ j % 5 = 3 ∨ j % 5 = 4 by omega) with hr | hr | hr | hr | hr
    · have ej : off + j = off + j / 5 * 5 := by omega
      have hcj : c j = .string (x (j / 5)).client := by
        show (w.cell? ⟨b, off + j, none⟩).getD _ = _
        rw [ej, f0]; rfl
      rw [hcj]; rfl
    · have ej : off + j = off + j / 5 * 5 + 1 := by omega
      have hcj : c j = .int .i64 (x (j / 5)).num := by
        show (w.cell? ⟨b, off + j, none⟩).getD _ = _
        rw [ej, f1]; rfl
      rw [hcj]; rfl
    · have ej : off + j = off + j / 5 * 5 + 2 := by omega
      have hcj : c j = .string (x (j / 5)).print := by
        show (w.cell? ⟨b, off + j, none⟩).getD _ = _
        rw [ej, f2]; rfl
      rw [hcj]; rfl
    · have ej : off + j = off + j / 5 * 5 + 3 := by omega
      have hcj : c j = .int .i64 (x (j / 5)).code := by
        show (w.cell? ⟨b, off + j, none⟩).getD _ = _
        rw [ej, f3]; rfl
      rw [hcj]; rfl
    · have ej : off + j = off + j / 5 * 5 + 4 := by omega
      have hcj : c j = .int .i64 (x (j / 5)).ver := by
        show (w.cell? ⟨b, off + j, none⟩).getD _ = _
        rw [ej, f4]; rfl
      rw [hcj]; rfl
  · obtain ⟨b, off, e1, e2, e3, f0, f1, f2, f3, f4⟩ := key i hi'
    subst e1
    have hc : ∀ j v, w.cell? ⟨b, off + j, none⟩ = some v → c j = v := fun j v h => by
      show (w.cell? ⟨b, off + j, none⟩).getD _ = _
      rw [h]; rfl
    exact ⟨hc (i * 5) _ (by exact f0), hc (i * 5 + 1) _ (by rw [← Nat.add_assoc]; exact f1), hc (i * 5 + 2) _ (by rw [← Nat.add_assoc]; exact f2), hc (i * 5 + 3) _ (by rw [← Nat.add_assoc]; exact f3), hc (i * 5 + 4) _ (by rw [← Nat.add_assoc]; exact f4)⟩
theorem SrcRow.below {w w' : World} {B lo hi : Nat} {ad : Option Addr} {m : Nat} {c : Nat → Value} (h : SrcRow w lo hi ad m c) (hb : Below B w w') (hB : hi ≤ B) : SrcRow w' lo hi ad m c :=
  ⟨fun j hj => by
    obtain ⟨b, off, e1, e2, e3, e4⟩ := h.at_ j hj
    exact ⟨b, off, e1, e2, e3, (hb.cell (p := ⟨b, off + j, none⟩) (Nat.lt_of_lt_of_le e3 hB)).trans e4⟩, h.one⟩
end Go.Proofs.YtkfbclopkgnacaaGreatDoor
namespace Go.Proofs.YtkfbclopkgnacaaGreatDoor
open Go.RowKit
theorem FrP.of_grown {w w' : World} {row : Option Nat} (h : w.grownBy w' row) : FrP (fun q => row = some q) w w' := ⟨h.os, h.tape, h.output, h.size, fun k hk ho => h.block k hk (fun e => ho e.symm)⟩
theorem ownsRow_fr {w w' : World} {base e z n : Nat} {v : Value} {xs : List Value} {P : Nat → Prop} (h : w.ownsRow base e z v n xs) (hf : FrP P w w') (hp : ∀ g, v.ownBlock = some g → ¬ P g) : w'.ownsRow base e z v n xs := by
  refine ⟨h.1, ?_⟩
  rcases h.2 with h0 | ⟨g, cap, cur, rfl, h1, h2, h3⟩
  · exact Or.inl h0
  · exact Or.inr ⟨g, cap, cur, rfl, h1, (hf.block g (Array.getElem?_eq_some_iff.1 h2).1 (hp g rfl)).trans h2, h3⟩
theorem StrsOwn.one {w : World} {lo hi : Nat} {ad : Option Addr} {n : Nat} {s : Nat → ByteArray} (h : StrsOwn w lo hi ad n s) : ∃ b, StrsOwn w b (b + 1) ad n s ∧ (n ≠ 0 → lo ≤ b ∧ b < hi) := by
  by_cases h0 : n = 0
  · subst h0; exact ⟨0, StrsOwn.zero, fun h => absurd rfl h⟩
  · obtain ⟨b, off, e1, e2, e3, _⟩ := h 0 (by omega)
    refine ⟨b, fun i hi => ?_, fun _ => ⟨e2, e3⟩⟩
    obtain ⟨b', off', f1, f2, f3, f4⟩ := h i hi
    rw [e1] at f1
    cases f1
    exact ⟨b, off, e1, Nat.le_refl _, Nat.lt_succ_self _, f4⟩
theorem alloc_news (w : World) (l : List Value) (t : TypeId) : ∀ j u, l[j]? = some u → (w.alloc (.cells l.toArray t)).cell? ((⟨w.heap.size, 0, none⟩ : Addr).add j) = some u := by
  intro j u h
  rw [show ((⟨w.heap.size, 0, none⟩ : Addr).add j) = ⟨w.heap.size, j, none⟩ by unfold Addr.add; split <;> simp_all, World.cell?_alloc_new]
  simpa using h
def appF (c : Nat → Value) (m : Nat) (news : List Value) : Nat → Value := fun j => if j < m then c j else news.getD (j - m) (.int .i64 0)
theorem appF_zero (c : Nat → Value) (m : Nat) (news : List Value) : appF c m news m = news.getD 0 (.int .i64 0) := by
  unfold appF
  rw [if_neg (Nat.lt_irrefl _), Nat.sub_self]
theorem appF_at (c : Nat → Value) (m : Nat) (news : List Value) (j : Nat) : appF c m news (m + j) = news.getD j (.int .i64 0) := by
  unfold appF
  rw [if_neg (by omega), Nat.add_sub_cancel_left]
theorem rowCells_append (c : Nat → Value) (m : Nat) (news : List Value) : rowCells m c ++ news = rowCells (m + news.length) (appF c m news) := by
  apply List.ext_getElem
  · simp [rowCells]
  · intro j h1 h2
    have hj : j < m + news.length := by simpa [rowCells] using h2
    rw [rowCells_at, List.getElem_append]
    unfold appF
    by_cases h : j < m
    · rw [dif_pos (by rw [rowCells_len]; exact h), rowCells_at, if_pos h]
    · rw [dif_neg (by rw [rowCells_len]; exact h), if_neg h]
      simp only [rowCells_len]
      rw [List.getD_eq_getElem?_getD, List.getElem?_eq_getElem (by omega)]
      rfl
theorem row_of_own {w : World} {base e z n g cap : Nat} {c : Nat → Value} (h : w.ownsRow base e z (.slice (some ⟨g, 0, none⟩) n cap) n (rowCells (n * z) c)) : RowF w g (n * z) c := by
  refine ⟨(h.lt g rfl).2, fun j => h.frozenAt j, fun j hj => ?_⟩
  rw [h.cellAt j hj, List.getElem?_eq_getElem (by rw [rowCells_len]; exact hj), rowCells_at]
/-- a list that is being built by appends -/
structure BdOb (w : World) (base : Nat) (v : Value) (k : Nat) (x : Nat → Ob) (A : Nat → Option Addr) (C hb : Nat → Nat) : Prop where
  row : ∃ c, w.ownsRow base 38 7 v k (rowCells (k * 7) c) ∧ ∀ i, i < k → atOb c i (x i) (A i) (C i)
  hold : ∀ i, i < k → StrsOwn w (hb i) (hb i + 1) (A i) (x i).hn (x i).hs
  hlt : ∀ i, i < k → (x i).hn ≠ 0 → base ≤ hb i ∧ hb i < w.heap.size
  ne : ∀ i, i < k → (x i).hn ≠ 0 → v.ownBlock ≠ some (hb i)
  inj : ∀ i j, i < k → j < k → (x i).hn ≠ 0 → (x j).hn ≠ 0 → hb i = hb j → i = j
theorem BdOb.fr {w : World} {base : Nat} {v : Value} {k : Nat} {x : Nat → Ob} {A : Nat → Option Addr} {C hb : Nat → Nat} {w' : World} {P : Nat → Prop} (h : BdOb w base v k x A C hb) (hf : FrP P w w') (hp : ∀ q, base ≤ q → q < w.heap.size → ¬ P q) : BdOb w' base v k x A C hb :=
  ⟨by obtain ⟨c, r, e⟩ := h.row; exact ⟨c, ownsRow_fr r hf (fun g hg => hp g (r.lt g hg).1 (r.lt g hg).2), e⟩, fun i hi => (h.hold i hi).frP hf (fun h0 => ⟨hp _ (h.hlt i hi h0).1 (h.hlt i hi h0).2, (h.hlt i hi h0).2⟩), fun i hi h0 => ⟨(h.hlt i hi h0).1, Nat.lt_of_lt_of_le (h.hlt i hi h0).2 hf.size⟩, h.ne, h.inj⟩
theorem BdOb.grow {w : World} {base : Nat} {v : Value} {k : Nat} {x : Nat → Ob} {A : Nat → Option Addr} {C hb : Nat → Nat} {w' : World} (h : BdOb w base v k x A C hb) (hf : Below w.heap.size w w') : BdOb w' base v k x A C hb := h.fr (FrP.of_below (P := fun _ => False) hf) (fun _ _ _ h => h)
theorem BdOb.app {w : World} {base : Nat} {v : Value} {k : Nat} {x : Nat → Ob} {A : Nat → Option Addr} {C hb : Nat → Nat} {w' : World} {v' : Value} {c : Nat → Value} {ad' : Option Addr} {cap' b' : Nat} (h : BdOb w base v k x A C hb) (hat : ∀ i, i < k → atOb c i (x i) (A i) (C i))
    (ho : w'.ownsRow base 38 7 v' (k + 1) (rowCells (k * 7) c ++ [.string (x k).kind, .string (x k).name, .int .i64 (x k).ver, .int .i64 (x k).born, .string (x k).text, .bool (x k).ending, .slice ad' (x k).hn cap'])) (hg : w.grownBy w' v.ownBlock) (hw : v'.ownBlock = v.ownBlock ∨ v'.ownBlock = some w.heap.size)
    (hs : StrsOwn w b' (b' + 1) ad' (x k).hn (x k).hs) (hl : (x k).hn ≠ 0 → base ≤ b' ∧ b' < w.heap.size) (hv : (x k).hn ≠ 0 → v.ownBlock ≠ some b') (hd : ∀ i, i < k → (x i).hn ≠ 0 → (x k).hn ≠ 0 → hb i ≠ b') :
    BdOb w' base v' (k + 1) x (updF A k ad') (updF C k cap') (updF hb k b') := by
  have F := FrP.of_grown hg
  refine ⟨⟨appF c (k * 7) [.string (x k).kind, .string (x k).name, .int .i64 (x k).ver, .int .i64 (x k).born, .string (x k).text, .bool (x k).ending, .slice ad' (x k).hn cap'], ?_, fun i hi => ?_⟩, fun i hi => ?_, fun i hi h0 => ?_, fun i hi h0 => ?_, fun i j hi hj h0 h1 e => ?_⟩
  · rw [rowCells_append] at ho
    have e : k * 7 + ([.string (x k).kind, .string (x k).name, .int .i64 (x k).ver, .int .i64 (x k).born, .string (x k).text, .bool (x k).ending, .slice ad' (x k).hn cap'] : List Value).length = (k + 1) * 7 := by show k * 7 + 7 = _; omega
    rw [e] at ho
    exact ho
  · by_cases e : i = k
    · subst e
      rw [updF_same, updF_same]
      exact ⟨appF_zero _ _ _, appF_at _ _ _ 1, appF_at _ _ _ 2, appF_at _ _ _ 3, appF_at _ _ _ 4, appF_at _ _ _ 5, appF_at _ _ _ 6⟩
    · rw [updF_ne _ _ e, updF_ne _ _ e]
      obtain ⟨a0, a1, a2, a3, a4, a5, a6⟩ := hat i (by omega)
      exact ⟨(if_pos (by omega)).trans a0, (if_pos (by omega)).trans a1, (if_pos (by omega)).trans a2, (if_pos (by omega)).trans a3, (if_pos (by omega)).trans a4, (if_pos (by omega)).trans a5, (if_pos (by omega)).trans a6⟩
  · by_cases e : i = k
    · subst e
      rw [updF_same, updF_same]
      exact hs.frP F (fun h0 => ⟨hv h0, (hl h0).2⟩)
    · rw [updF_ne _ _ e, updF_ne _ _ e]
      exact (h.hold i (by omega)).frP F (fun h0 => ⟨h.ne i (by omega) h0, (h.hlt i (by omega) h0).2⟩)
  · by_cases e : i = k
    · subst e
      rw [updF_same]
      exact ⟨(hl h0).1, Nat.lt_of_lt_of_le (hl h0).2 hg.size⟩
    · rw [updF_ne _ _ e]
      exact ⟨(h.hlt i (by omega) h0).1, Nat.lt_of_lt_of_le (h.hlt i (by omega) h0).2 hg.size⟩
  · by_cases e : i = k
    · subst e
      rw [updF_same]
      rcases hw with hw | hw
      · rw [hw]; exact hv h0
      · rw [hw]; intro q; cases q; exact Nat.lt_irrefl _ (hl h0).2
    · rw [updF_ne _ _ e]
      rcases hw with hw | hw
      · rw [hw]; exact h.ne i (by omega) h0
      · rw [hw]; intro q
        have h2 := (h.hlt i (by omega) h0).2
        injection q with q
        omega
  · by_cases e1 : i = k
    · by_cases e2 : j = k
      · rw [e1, e2]
      · subst e1
        rw [updF_same, updF_ne _ _ e2] at e
        exact absurd e.symm (hd j (by omega) h1 h0)
    · by_cases e2 : j = k
      · subst e2
        rw [updF_same, updF_ne _ _ e1] at e
        exact absurd e (hd i (by omega) h0 h1)
      · rw [updF_ne _ _ e1, updF_ne _ _ e2] at e
        exact h.inj i j (by omega) (by omega) h0 h1 e
theorem BdOb.done {w : World} {base : Nat} {v : Value} {k : Nat} {x : Nat → Ob} {A : Nat → Option Addr} {C hb : Nat → Nat} (h : BdOb w base v k x A C hb) : ∃ ad cap g, v = .slice ad k cap ∧ ObsAt w ad g k x A C hb ∧ ∀ q, blkH g k (fun i => (x i).hn) hb q → base ≤ q := by
  obtain ⟨c, r, hat⟩ := h.row
  rcases r.2 with ⟨rfl, rfl⟩ | ⟨g, cap, cur, rfl, h1, _⟩
  · exact ⟨none, 0, 0, rfl, ⟨fun h0 => absurd h0 (Nat.lt_irrefl _), fun h0 => absurd h0 (Nat.lt_irrefl _), fun i hi => absurd hi (Nat.not_lt_zero _), fun i hi => absurd hi (Nat.not_lt_zero _), ⟨fun i hi => absurd hi (Nat.not_lt_zero _), fun i j hi => absurd hi (Nat.not_lt_zero _)⟩⟩, fun q hq => by
      rcases hq with ⟨h0, _⟩ | ⟨i, hi, _⟩
      · exact absurd h0 (Nat.lt_irrefl _)
      · exact absurd hi (Nat.not_lt_zero _)⟩
  · refine ⟨_, cap, g, rfl, ⟨fun _ => rfl, fun _ => ⟨c, row_of_own r, hat⟩, h.hold, fun i hi h0 => (h.hlt i hi h0).2, ⟨fun i hi h0 e => h.ne i hi h0 (by rw [e]; rfl), h.inj⟩⟩, fun q hq => ?_⟩
    rcases hq with ⟨h0, rfl⟩ | ⟨i, hi, h0, rfl⟩
    · exact h1
    · exact (h.hlt i hi h0).1
/-- a list that is being built by appends -/
structure BdCh (w : World) (base : Nat) (v : Value) (k : Nat) (x : Nat → Ch) (A : Nat → Option Addr) (C hb : Nat → Nat) : Prop where
  row : ∃ c, w.ownsRow base 41 9 v k (rowCells (k * 9) c) ∧ ∀ i, i < k → atCh c i (x i) (A i) (C i)
  hold : ∀ i, i < k → StrsOwn w (hb i) (hb i + 1) (A i) (x i).ob.hn (x i).ob.hs
  hlt : ∀ i, i < k → (x i).ob.hn ≠ 0 → base ≤ hb i ∧ hb i < w.heap.size
  ne : ∀ i, i < k → (x i).ob.hn ≠ 0 → v.ownBlock ≠ some (hb i)
  inj : ∀ i j, i < k → j < k → (x i).ob.hn ≠ 0 → (x j).ob.hn ≠ 0 → hb i = hb j → i = j
theorem BdCh.fr {w : World} {base : Nat} {v : Value} {k : Nat} {x : Nat → Ch} {A : Nat → Option Addr} {C hb : Nat → Nat} {w' : World} {P : Nat → Prop} (h : BdCh w base v k x A C hb) (hf : FrP P w w') (hp : ∀ q, base ≤ q → q < w.heap.size → ¬ P q) : BdCh w' base v k x A C hb :=
  ⟨by obtain ⟨c, r, e⟩ := h.row; exact ⟨c, ownsRow_fr r hf (fun g hg => hp g (r.lt g hg).1 (r.lt g hg).2), e⟩, fun i hi => (h.hold i hi).frP hf (fun h0 => ⟨hp _ (h.hlt i hi h0).1 (h.hlt i hi h0).2, (h.hlt i hi h0).2⟩), fun i hi h0 => ⟨(h.hlt i hi h0).1, Nat.lt_of_lt_of_le (h.hlt i hi h0).2 hf.size⟩, h.ne, h.inj⟩
theorem BdCh.grow {w : World} {base : Nat} {v : Value} {k : Nat} {x : Nat → Ch} {A : Nat → Option Addr} {C hb : Nat → Nat} {w' : World} (h : BdCh w base v k x A C hb) (hf : Below w.heap.size w w') : BdCh w' base v k x A C hb := h.fr (FrP.of_below (P := fun _ => False) hf) (fun _ _ _ h => h)
theorem BdCh.app {w : World} {base : Nat} {v : Value} {k : Nat} {x : Nat → Ch} {A : Nat → Option Addr} {C hb : Nat → Nat} {w' : World} {v' : Value} {c : Nat → Value} {ad' : Option Addr} {cap' b' : Nat} (h : BdCh w base v k x A C hb) (hat : ∀ i, i < k → atCh c i (x i) (A i) (C i))
    (ho : w'.ownsRow base 41 9 v' (k + 1) (rowCells (k * 9) c ++ [.int .i64 (x k).ver, .bool (x k).gone, .string (x k).ob.kind, .string (x k).ob.name, .int .i64 (x k).ob.ver, .int .i64 (x k).ob.born, .string (x k).ob.text, .bool (x k).ob.ending, .slice ad' (x k).ob.hn cap'])) (hg : w.grownBy w' v.ownBlock) (hw : v'.ownBlock = v.ownBlock ∨ v'.ownBlock = some w.heap.size)
    (hs : StrsOwn w b' (b' + 1) ad' (x k).ob.hn (x k).ob.hs) (hl : (x k).ob.hn ≠ 0 → base ≤ b' ∧ b' < w.heap.size) (hv : (x k).ob.hn ≠ 0 → v.ownBlock ≠ some b') (hd : ∀ i, i < k → (x i).ob.hn ≠ 0 → (x k).ob.hn ≠ 0 → hb i ≠ b') :
    BdCh w' base v' (k + 1) x (updF A k ad') (updF C k cap') (updF hb k b') := by
  have F := FrP.of_grown hg
  refine ⟨⟨appF c (k * 9) [.int .i64 (x k).ver, .bool (x k).gone, .string (x k).ob.kind, .string (x k).ob.name, .int .i64 (x k).ob.ver, .int .i64 (x k).ob.born, .string (x k).ob.text, .bool (x k).ob.ending, .slice ad' (x k).ob.hn cap'], ?_, fun i hi => ?_⟩, fun i hi => ?_, fun i hi h0 => ?_, fun i hi h0 => ?_, fun i j hi hj h0 h1 e => ?_⟩
  · rw [rowCells_append] at ho
    have e : k * 9 + ([.int .i64 (x k).ver, .bool (x k).gone, .string (x k).ob.kind, .string (x k).ob.name, .int .i64 (x k).ob.ver, .int .i64 (x k).ob.born, .string (x k).ob.text, .bool (x k).ob.ending, .slice ad' (x k).ob.hn cap'] : List Value).length = (k + 1) * 9 := by show k * 9 + 9 = _; omega
    rw [e] at ho
    exact ho
  · by_cases e : i = k
    · subst e
      rw [updF_same, updF_same]
      exact ⟨appF_zero _ _ _, appF_at _ _ _ 1, appF_at _ _ _ 2, appF_at _ _ _ 3, appF_at _ _ _ 4, appF_at _ _ _ 5, appF_at _ _ _ 6, appF_at _ _ _ 7, appF_at _ _ _ 8⟩
    · rw [updF_ne _ _ e, updF_ne _ _ e]
      obtain ⟨a0, a1, a2, a3, a4, a5, a6, a7, a8⟩ := hat i (by omega)
      exact ⟨(if_pos (by omega)).trans a0, (if_pos (by omega)).trans a1, (if_pos (by omega)).trans a2, (if_pos (by omega)).trans a3, (if_pos (by omega)).trans a4, (if_pos (by omega)).trans a5, (if_pos (by omega)).trans a6, (if_pos (by omega)).trans a7, (if_pos (by omega)).trans a8⟩
  · by_cases e : i = k
    · subst e
      rw [updF_same, updF_same]
      exact hs.frP F (fun h0 => ⟨hv h0, (hl h0).2⟩)
    · rw [updF_ne _ _ e, updF_ne _ _ e]
      exact (h.hold i (by omega)).frP F (fun h0 => ⟨h.ne i (by omega) h0, (h.hlt i (by omega) h0).2⟩)
  · by_cases e : i = k
    · subst e
      rw [updF_same]
      exact ⟨(hl h0).1, Nat.lt_of_lt_of_le (hl h0).2 hg.size⟩
    · rw [updF_ne _ _ e]
      exact ⟨(h.hlt i (by omega) h0).1, Nat.lt_of_lt_of_le (h.hlt i (by omega) h0).2 hg.size⟩
  · by_cases e : i = k
    · subst e
      rw [updF_same]
      rcases hw with hw | hw
      · rw [hw]; exact hv h0
      · rw [hw]; intro q; cases q; exact Nat.lt_irrefl _ (hl h0).2
    · rw [updF_ne _ _ e]
      rcases hw with hw | hw
      · rw [hw]; exact h.ne i (by omega) h0
      · rw [hw]; intro q
        have h2 := (h.hlt i (by omega) h0).2
        injection q with q
        omega
  · by_cases e1 : i = k
    · by_cases e2 : j = k
      · rw [e1, e2]
      · subst e1
        rw [updF_same, updF_ne _ _ e2] at e
        exact absurd e.symm (hd j (by omega) h1 h0)
    · by_cases e2 : j = k
      · subst e2
        rw [updF_same, updF_ne _ _ e1] at e
        exact absurd e (hd i (by omega) h0 h1)
      · rw [updF_ne _ _ e1, updF_ne _ _ e2] at e
        exact h.inj i j (by omega) (by omega) h0 h1 e
theorem BdCh.done {w : World} {base : Nat} {v : Value} {k : Nat} {x : Nat → Ch} {A : Nat → Option Addr} {C hb : Nat → Nat} (h : BdCh w base v k x A C hb) : ∃ ad cap g, v = .slice ad k cap ∧ ChsAt w ad g k x A C hb ∧ ∀ q, blkH g k (fun i => (x i).ob.hn) hb q → base ≤ q := by
  obtain ⟨c, r, hat⟩ := h.row
  rcases r.2 with ⟨rfl, rfl⟩ | ⟨g, cap, cur, rfl, h1, _⟩
  · exact ⟨none, 0, 0, rfl, ⟨fun h0 => absurd h0 (Nat.lt_irrefl _), fun h0 => absurd h0 (Nat.lt_irrefl _), fun i hi => absurd hi (Nat.not_lt_zero _), fun i hi => absurd hi (Nat.not_lt_zero _), ⟨fun i hi => absurd hi (Nat.not_lt_zero _), fun i j hi => absurd hi (Nat.not_lt_zero _)⟩⟩, fun q hq => by
      rcases hq with ⟨h0, _⟩ | ⟨i, hi, _⟩
      · exact absurd h0 (Nat.lt_irrefl _)
      · exact absurd hi (Nat.not_lt_zero _)⟩
  · refine ⟨_, cap, g, rfl, ⟨fun _ => rfl, fun _ => ⟨c, row_of_own r, hat⟩, h.hold, fun i hi h0 => (h.hlt i hi h0).2, ⟨fun i hi h0 e => h.ne i hi h0 (by rw [e]; rfl), h.inj⟩⟩, fun q hq => ?_⟩
    rcases hq with ⟨h0, rfl⟩ | ⟨i, hi, h0, rfl⟩
    · exact h1
    · exact (h.hlt i hi h0).1
end Go.Proofs.YtkfbclopkgnacaaGreatDoor
