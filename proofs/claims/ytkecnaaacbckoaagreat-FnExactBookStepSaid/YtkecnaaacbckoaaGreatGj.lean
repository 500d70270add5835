import Derived.Test.YtkecnaaacbckoaaGreatGg
import Derived.Test.YtkecnaaacbckoaaGreatW
import Derived.Maps.AppendAt
namespace Go.Proofs.YtkecnaaacbckoaaGreat
open Go.RowKit
theorem FrP.of_grown {w w' : World} {row : Option Nat} (h : w.grownBy w' row) : FrP (fun q => row = some q) w w' := ⟨h.os, h.tape, h.output, h.size, fun k hk ho => h.block k hk (fun e => ho e.symm)⟩
theorem ownsRow_fr {w w' : World} {base e z n : Nat} {v : Value} {xs : List Value} {P : Nat → Prop} (h : w.ownsRow base e z v n xs) (hf : FrP P w w') (hp : ∀ g, v.ownBlock = some g → ¬ P g) : w'.ownsRow base e z v n xs := by
  refine ⟨h.1, ?_⟩
  rcases h.2 with h0 | ⟨g, cap, cur, rfl, h1, h2, h3⟩
  · exact Or.inl h0
  · exact Or.inr ⟨g, cap, cur, rfl, h1, (hf.block g (Array.getElem?_eq_some_iff.1 h2).1 (hp g rfl)).trans h2, h3⟩
theorem StrsOwn.one {w : World} {lo hi : Nat} {ad : Option Addr} {n : Nat} {s : Nat → ByteArray} (h : StrsOwn w lo hi ad n s) : ∃ b, StrsOwn w b (b + 1) ad n s ∧ (n ≠ 0 → lo ≤ b ∧ b < hi) := by
  by_cases h0 : n = 0
  · subst h0; exact ⟨0, StrsOwn.zero, fun h => absurd rfl h⟩
  · obtain ⟨b, off, e1, e2, e3, _⟩ := h 0 (by omega)
    refine ⟨b, fun i hi => ?_, fun _ => ⟨e2, e3⟩⟩
    obtain ⟨b', off', f1, f2, f3, f4⟩ := h i hi
    rw [e1] at f1
    cases f1
    exact ⟨b, off, e1, Nat.le_refl _, Nat.lt_succ_self _, f4⟩
theorem alloc_news (w : World) (l : List Value) (t : TypeId) : ∀ j u, l[j]? = some u → (w.alloc (.cells l.toArray t)).cell? ((⟨w.heap.size, 0, none⟩ : Addr).add j) = some u := by
  intro j u h
  rw [show ((⟨w.heap.size, 0, none⟩ : Addr).add j) = ⟨w.heap.size, j, none⟩ by unfold Addr.add; split <;> simp_all, World.cell?_alloc_new]
  simpa using h
def appF (c : Nat → Value) (m : Nat) (news : List Value) : Nat → Value := fun j => if j < m then c j else news.getD (j - m) (.int .i64 0)
theorem appF_zero (c : Nat → Value) (m : Nat) (news : List Value) : appF c m news m = news.getD 0 (.int .i64 0) := by
  unfold appF
  rw [if_neg (Nat.lt_irrefl _), Nat.sub_self]
theorem appF_at (c : Nat → Value) (m : Nat) (news : List Value) (j : Nat) : appF c m news (m + j) = news.getD j (.int .i64 0) := by
  unfold appF
  rw [if_neg (by omega), Nat.add_sub_cancel_left]
theorem rowCells_append (c : Nat → Value) (m : Nat) (news : List Value) : rowCells m c ++ news = rowCells (m + news.length) (appF c m news) := by
  apply List.ext_getElem
  · simp [rowCells]
  · intro j h1 h2
    have hj : j < m + news.length := by simpa [rowCells] using h2
    rw [rowCells_at, List.getElem_append]
    unfold appF
    by_cases h : j < m
    · rw [dif_pos (by rw [rowCells_len]; exact h), rowCells_at, if_pos h]
    · rw [dif_neg (by rw [rowCells_len]; exact h), if_neg h]
      simp only [rowCells_len]
      rw [List.getD_eq_getElem?_getD, List.getElem?_eq_getElem (by omega)]
      rfl
theorem row_of_own {w : World} {base e z n g cap : Nat} {c : Nat → Value} (h : w.ownsRow base e z (.slice (some ⟨g, 0, none⟩) n cap) n (rowCells (n * z) c)) : RowF w g (n * z) c := by
  refine ⟨(h.lt g rfl).2, fun j => h.frozenAt j, fun j hj => ?_⟩
  rw [h.cellAt j hj, List.getElem?_eq_getElem (by rw [rowCells_len]; exact hj), rowCells_at]
/-- a list that is being built by appends -/
structure BdOb (w : World) (base : Nat) (v : Value) (k : Nat) (x : Nat → Ob) (A : Nat → Option Addr) (C hb : Nat → Nat) : Prop where
  row : ∃ c, w.ownsRow base 73 7 v k (rowCells (k * 7) c) ∧ ∀ i, i < k → atOb c i (x i) (A i) (C i)
  hold : ∀ i, i < k → StrsOwn w (hb i) (hb i + 1) (A i) (x i).hn (x i).hs
  hlt : ∀ i, i < k → (x i).hn ≠ 0 → base ≤ hb i ∧ hb i < w.heap.size
  ne : ∀ i, i < k → (x i).hn ≠ 0 → v.ownBlock ≠ some (hb i)
  inj : ∀ i j, i < k → j < k → (x i).hn ≠ 0 → (x j).hn ≠ 0 → hb i = hb j → i = j
theorem BdOb.fr {w : World} {base : Nat} {v : Value} {k : Nat} {x : Nat → Ob} {A : Nat → Option Addr} {C hb : Nat → Nat} {w' : World} {P : Nat → Prop} (h : BdOb w base v k x A C hb) (hf : FrP P w w') (hp : ∀ q, base ≤ q → q < w.heap.size → ¬ P q) : BdOb w' base v k x A C hb :=
  ⟨by obtain ⟨c, r, e⟩ := h.row; exact ⟨c, ownsRow_fr r hf (fun g hg => hp g (r.lt g hg).1 (r.lt g hg).2), e⟩, fun i hi => (h.hold i hi).frP hf (fun h0 => ⟨hp _ (h.hlt i hi h0).1 (h.hlt i hi h0).2, (h.hlt i hi h0).2⟩), fun i hi h0 => ⟨(h.hlt i hi h0).1, Nat.lt_of_lt_of_le (h.hlt i hi h0).2 hf.size⟩, h.ne, h.inj⟩
theorem BdOb.grow {w : World} {base : Nat} {v : Value} {k : Nat} {x : Nat → Ob} {A : Nat → Option Addr} {C hb : Nat → Nat} {w' : World} (h : BdOb w base v k x A C hb) (hf : Below w.heap.size w w') : BdOb w' base v k x A C hb := h.fr (FrP.of_below (P := fun _ => False) hf) (fun _ _ _ h => h)
theorem BdOb.app {w : World} {base : Nat} {v : Value} {k : Nat} {x : Nat → Ob} {A : Nat → Option Addr} {C hb : Nat → Nat} {w' : World} {v' : Value} {c : Nat → Value} {ad' : Option Addr} {cap' b' : Nat} (h : BdOb w base v k x A C hb) (hat : ∀ i, i < k → atOb c i (x i) (A i) (C i))
    (ho : w'.ownsRow base 73 7 v' (k + 1) (rowCells (k * 7) c ++ [.string (x k).kind, .string (x k).name, .int .i64 (x k).ver, .int .i64 (x k).born, .string (x k).text, .bool (x k).ending, .slice ad' (x k).hn cap'])) (hg : w.grownBy w' v.ownBlock) (hw : v'.ownBlock = v.ownBlock ∨ v'.ownBlock = some w.heap.size)
    (hs : StrsOwn w b' (b' + 1) ad' (x k).hn (x k).hs) (hl : (x k).hn ≠ 0 → base ≤ b' ∧ b' < w.heap.size) (hv : (x k).hn ≠ 0 → v.ownBlock ≠ some b') (hd : ∀ i, i < k → (x i).hn ≠ 0 → (x k).hn ≠ 0 → hb i ≠ b') :
    BdOb w' base v' (k + 1) x (updF A k ad') (updF C k cap') (updF hb k b') := by
  have F := FrP.of_grown hg
  refine ⟨⟨appF c (k * 7) [.string (x k).kind, .string (x k).name, .int .i64 (x k).ver, .int .i64 (x k).born, .string (x k).text, .bool (x k).ending, .slice ad' (x k).hn cap'], ?_, fun i hi => ?_⟩, fun i hi => ?_, fun i hi h0 => ?_, fun i hi h0 => ?_, fun i j hi hj h0 h1 e => ?_⟩
  · rw [rowCells_append] at ho
    have e : k * 7 + ([.string (x k).kind, .string (x k).name, .int .i64 (x k).ver, .int .i64 (x k).born, .string (x k).text, .bool (x k).ending, .slice ad' (x k).hn cap'] : List Value).length = (k + 1) * 7 := by show k * 7 + 7 = _; omega
    rw [e] at ho
    exact ho
  · by_cases e : i = k
    · subst e
      rw [updF_same, updF_same]
      exact ⟨appF_zero _ _ _, appF_at _ _ _ 1, appF_at _ _ _ 2, appF_at _ _ _ 3, appF_at _ _ _ 4, appF_at _ _ _ 5, appF_at _ _ _ 6⟩
    · rw [updF_ne _ _ e, updF_ne _ _ e]
      obtain ⟨a0, a1, a2, a3, a4, a5, a6⟩ := hat i (by omega)
      exact ⟨(if_pos (by omega)).trans a0, (if_pos (by omega)).trans a1, (if_pos (by omega)).trans a2, (if_pos (by omega)).trans a3, (if_pos (by omega)).trans a4, (if_pos (by omega)).trans a5, (if_pos (by omega)).trans a6⟩
  · by_cases e : i = k
    · subst e
      rw [updF_same, updF_same]
      exact hs.frP F (fun h0 => ⟨hv h0, (hl h0).2⟩)
    · rw [updF_ne _ _ e, updF_ne _ _ e]
      exact (h.hold i (by omega)).frP F (fun h0 => ⟨h.ne i (by omega) h0, (h.hlt i (by omega) h0).2⟩)
  · by_cases e : i = k
    · subst e
      rw [updF_same]
      exact ⟨(hl h0).1, Nat.lt_of_lt_of_le (hl h0).2 hg.size⟩
    · rw [updF_ne _ _ e]
      exact ⟨(h.hlt i (by omega) h0).1, Nat.lt_of_lt_of_le (h.hlt i (by omega) h0).2 hg.size⟩
  · by_cases e : i = k
    · subst e
      rw [updF_same]
      rcases hw with hw | hw
      · rw [hw]; exact hv h0
      · rw [hw]; intro q; cases q; exact Nat.lt_irrefl _ (hl h0).2
    · rw [updF_ne _ _ e]
      rcases hw with hw | hw
      · rw [hw]; exact h.ne i (by omega) h0
      · rw [hw]; intro q
        have h2 := (h.hlt i (by omega) h0).2
        injection q with q
        omega
  · by_cases e1 : i = k
    · by_cases e2 : j = k
      · rw [e1, e2]
      · subst e1
        rw [updF_same, updF_ne _ _ e2] at e
        exact absurd e.symm (hd j (by omega) h1 h0)
    · by_cases e2 : j = k
      · subst e2
        rw [updF_same, updF_ne _ _ e1] at e
        exact absurd e (hd i (by omega) h0 h1)
      · rw [updF_ne _ _ e1, updF_ne _ _ e2] at e
        exact h.inj i j (by omega) (by omega) h0 h1 e
theorem BdOb.done {w : World} {base : Nat} {v : Value} {k : Nat} {x : Nat → Ob} {A : Nat → Option Addr} {C hb : Nat → Nat} (h : BdOb w base v k x A C hb) : ∃ ad cap g, v = .slice ad k cap ∧ ObsAt w ad g k x A C hb ∧ ∀ q, blkH g k (fun i => (x i).hn) hb q → base ≤ q := by
  obtain ⟨c, r, hat⟩ := h.row
  rcases r.2 with ⟨rfl, rfl⟩ | ⟨g, cap, cur, rfl, h1, _⟩
  · exact ⟨none, 0, 0, rfl, ⟨fun h0 => absurd h0 (Nat.lt_irrefl _), fun h0 => absurd h0 (Nat.lt_irrefl _), fun i hi => absurd hi (Nat.not_lt_zero _), fun i hi => absurd hi (Nat.not_lt_zero _), ⟨fun i hi => absurd hi (Nat.not_lt_zero _), fun i j hi => absurd hi (Nat.not_lt_zero _)⟩⟩, fun q hq => by
      rcases hq with ⟨h0, _⟩ | ⟨i, hi, _⟩
      · exact absurd h0 (Nat.lt_irrefl _)
      · exact absurd hi (Nat.not_lt_zero _)⟩
  · refine ⟨_, cap, g, rfl, ⟨fun _ => rfl, fun _ => ⟨c, row_of_own r, hat⟩, h.hold, fun i hi h0 => (h.hlt i hi h0).2, ⟨fun i hi h0 e => h.ne i hi h0 (by rw [e]; rfl), h.inj⟩⟩, fun q hq => ?_⟩
    rcases hq with ⟨h0, rfl⟩ | ⟨i, hi, h0, rfl⟩
    · exact h1
    · exact (h.hlt i hi h0).1
/-- a list that is being built by appends -/
structure BdCh (w : World) (base : Nat) (v : Value) (k : Nat) (x : Nat → Ch) (A : Nat → Option Addr) (C hb : Nat → Nat) : Prop where
  row : ∃ c, w.ownsRow base 75 9 v k (rowCells (k * 9) c) ∧ ∀ i, i < k → atCh c i (x i) (A i) (C i)
  hold : ∀ i, i < k → StrsOwn w (hb i) (hb i + 1) (A i) (x i).ob.hn (x i).ob.hs
  hlt : ∀ i, i < k → (x i).ob.hn ≠ 0 → base ≤ hb i ∧ hb i < w.heap.size
  ne : ∀ i, i < k → (x i).ob.hn ≠ 0 → v.ownBlock ≠ some (hb i)
  inj : ∀ i j, i < k → j < k → (x i).ob.hn ≠ 0 → (x j).ob.hn ≠ 0 → hb i = hb j → i = j
theorem BdCh.fr {w : World} {base : Nat} {v : Value} {k : Nat} {x : Nat → Ch} {A : Nat → Option Addr} {C hb : Nat → Nat} {w' : World} {P : Nat → Prop} (h : BdCh w base v k x A C hb) (hf : FrP P w w') (hp : ∀ q, base ≤ q → q < w.heap.size → ¬ P q) : BdCh w' base v k x A C hb :=
  ⟨by obtain ⟨c, r, e⟩ := h.row; exact ⟨c, ownsRow_fr r hf (fun g hg => hp g (r.lt g hg).1 (r.lt g hg).2), e⟩, fun i hi => (h.hold i hi).frP hf (fun h0 => ⟨hp _ (h.hlt i hi h0).1 (h.hlt i hi h0).2, (h.hlt i hi h0).2⟩), fun i hi h0 => ⟨(h.hlt i hi h0).1, Nat.lt_of_lt_of_le (h.hlt i hi h0).2 hf.size⟩, h.ne, h.inj⟩
theorem BdCh.grow {w : World} {base : Nat} {v : Value} {k : Nat} {x : Nat → Ch} {A : Nat → Option Addr} {C hb : Nat → Nat} {w' : World} (h : BdCh w base v k x A C hb) (hf : Below w.heap.size w w') : BdCh w' base v k x A C hb := h.fr (FrP.of_below (P := fun _ => False) hf) (fun _ _ _ h => h)
theorem BdCh.app {w : World} {base : Nat} {v : Value} {k : Nat} {x : Nat → Ch} {A : Nat → Option Addr} {C hb : Nat → Nat} {w' : World} {v' : Value} {c : Nat → Value} {ad' : Option Addr} {cap' b' : Nat} (h : BdCh w base v k x A C hb) (hat : ∀ i, i < k → atCh c i (x i) (A i) (C i))
    (ho : w'.ownsRow base 75 9 v' (k + 1) (rowCells (k * 9) c ++ [.int .i64 (x k).ver, .bool (x k).gone, .string (x k).ob.kind, .string (x k).ob.name, .int .i64 (x k).ob.ver, .int .i64 (x k).ob.born, .string (x k).ob.text, .bool (x k).ob.ending, .slice ad' (x k).ob.hn cap'])) (hg : w.grownBy w' v.ownBlock) (hw : v'.ownBlock = v.ownBlock ∨ v'.ownBlock = some w.heap.size)
    (hs : StrsOwn w b' (b' + 1) ad' (x k).ob.hn (x k).ob.hs) (hl : (x k).ob.hn ≠ 0 → base ≤ b' ∧ b' < w.heap.size) (hv : (x k).ob.hn ≠ 0 → v.ownBlock ≠ some b') (hd : ∀ i, i < k → (x i).ob.hn ≠ 0 → (x k).ob.hn ≠ 0 → hb i ≠ b') :
    BdCh w' base v' (k + 1) x (updF A k ad') (updF C k cap') (updF hb k b') := by
  have F := FrP.of_grown hg
  refine ⟨⟨appF c (k * 9) [.int .i64 (x k).ver, .bool (x k).gone, .string (x k).ob.kind, .string (x k).ob.name, .int .i64 (x k).ob.ver, .int .i64 (x k).ob.born, .string (x k).ob.text, .bool (x k).ob.ending, .slice ad' (x k).ob.hn cap'], ?_, fun i hi => ?_⟩, fun i hi => ?_, fun i hi h0 => ?_, fun i hi h0 => ?_, fun i j hi hj h0 h1 e => ?_⟩
  · rw [rowCells_append] at ho
    have e : k * 9 + ([.int .i64 (x k).ver, .bool (x k).gone, .string (x k).ob.kind, .string (x k).ob.name, .int .i64 (x k).ob.ver, .int .i64 (x k).ob.born, .string (x k).ob.text, .bool (x k).ob.ending, .slice ad' (x k).ob.hn cap'] : List Value).length = (k + 1) * 9 := by show k * 9 + 9 = _; omega
    rw [e] at ho
    exact ho
  · by_cases e : i = k
    · subst e
      rw [updF_same, updF_same]
      exact ⟨appF_zero _ _ _, appF_at _ _ _ 1, appF_at _ _ _ 2, appF_at _ _ _ 3, appF_at _ _ _ 4, appF_at _ _ _ 5, appF_at _ _ _ 6, appF_at _ _ _ 7, appF_at _ _ _ 8⟩
    · rw [updF_ne _ _ e, updF_ne _ _ e]
      obtain ⟨a0, a1, a2, a3, a4, a5, a6, a7, a8⟩ := hat i (by omega)
      exact ⟨(if_pos (by omega)).trans a0, (if_pos (by omega)).trans a1, (if_pos (by omega)).trans a2, (if_pos (by omega)).trans a3, (if_pos (by omega)).trans a4, (if_pos (by omega)).trans a5, (if_pos (by omega)).trans a6, (if_pos (by omega)).trans a7, (if_pos (by omega)).trans a8⟩
  · by_cases e : i = k
    · subst e
      rw [updF_same, updF_same]
      exact hs.frP F (fun h0 => ⟨hv h0, (hl h0).2⟩)
    · rw [updF_ne _ _ e, updF_ne _ _ e]
      exact (h.hold i (by omega)).frP F (fun h0 => ⟨h.ne i (by omega) h0, (h.hlt i (by omega) h0).2⟩)
  · by_cases e : i = k
    · subst e
      rw [updF_same]
      exact ⟨(hl h0).1, Nat.lt_of_lt_of_le (hl h0).2 hg.size⟩
    · rw [updF_ne _ _ e]
      exact ⟨(h.hlt i (by omega) h0).1, Nat.lt_of_lt_of_le (h.hlt i (by omega) h0).2 hg.size⟩
  · by_cases e : i = k
    · subst e
      rw [updF_same]
      rcases hw with hw | hw
      · rw [hw]; exact hv h0
      · rw [hw]; intro q; cases q; exact Nat.lt_irrefl _ (hl h0).2
    · rw [updF_ne _ _ e]
      rcases hw with hw | hw
      · rw [hw]; exact h.ne i (by omega) h0
      · rw [hw]; intro q
        have h2 := (h.hlt i (by omega) h0).2
        injection q with q
        omega
  · by_cases e1 : i = k
    · by_cases e2 : j = k
      · rw [e1, e2]
      · subst e1
        rw [updF_same, updF_ne _ _ e2] at e
        exact absurd e.symm (hd j (by omega) h1 h0)
    · by_cases e2 : j = k
      · subst e2
        rw [updF_same, updF_ne _ _ e1] at e
        exact absurd e (hd i (by omega) h0 h1)
      · rw [updF_ne _ _ e1, updF_ne _ _ e2] at e
        exact h.inj i j (by omega) (by omega) h0 h1 e
theorem BdCh.done {w : World} {base : Nat} {v : Value} {k : Nat} {x : Nat → Ch} {A : Nat → Option Addr} {C hb : Nat → Nat} (h : BdCh w base v k x A C hb) : ∃ ad cap g, v = .slice ad k cap ∧ ChsAt w ad g k x A C hb ∧ ∀ q, blkH g k (fun i => (x i).ob.hn) hb q → base ≤ q := by
  obtain ⟨c, r, hat⟩ := h.row
  rcases r.2 with ⟨rfl, rfl⟩ | ⟨g, cap, cur, rfl, h1, _⟩
  · exact ⟨none, 0, 0, rfl, ⟨fun h0 => absurd h0 (Nat.lt_irrefl _), fun h0 => absurd h0 (Nat.lt_irrefl _), fun i hi => absurd hi (Nat.not_lt_zero _), fun i hi => absurd hi (Nat.not_lt_zero _), ⟨fun i hi => absurd hi (Nat.not_lt_zero _), fun i j hi => absurd hi (Nat.not_lt_zero _)⟩⟩, fun q hq => by
      rcases hq with ⟨h0, _⟩ | ⟨i, hi, _⟩
      · exact absurd h0 (Nat.lt_irrefl _)
      · exact absurd hi (Nat.not_lt_zero _)⟩
  · refine ⟨_, cap, g, rfl, ⟨fun _ => rfl, fun _ => ⟨c, row_of_own r, hat⟩, h.hold, fun i hi h0 => (h.hlt i hi h0).2, ⟨fun i hi h0 e => h.ne i hi h0 (by rw [e]; rfl), h.inj⟩⟩, fun q hq => ?_⟩
    rcases hq with ⟨h0, rfl⟩ | ⟨i, hi, h0, rfl⟩
    · exact h1
    · exact (h.hlt i hi h0).1
end Go.Proofs.YtkecnaaacbckoaaGreat
