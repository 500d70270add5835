import Derived.Test.YtkcgfjnmkbbnoaaCf
import Derived.Test.YtkcgfjnmkbbnoaaCg
namespace Go.Proofs.Ytkcgfjnmkbbnoaa
open Go.RowKit
/-- append of a list to an empty one -/
theorem append_empty {P : Program} (w : World) (t ty e : TypeId) (z bytes : Nat) (zv : Value) (ht : P.underlying t = some (.slice e)) (hinf : (P.info? e).map (fun i => (i.zero, i.size, i.bytes)) = some (some zv, z, bytes)) (hz : 0 < z)
    (lo hi b : Nat) (ad : Option Addr) (n cap : Nat) (c : Nat → Value) (hc : SrcRow w lo hi ad (n * z) c) (h63 : (n : Int) ≤ 9223372036854775807) (hb : n * bytes ≤ 140737488355328) :
    ∃ ad' cap' w', (Builtin.append_ #[t, t] ty #[.slice (some ⟨b, 0, none⟩) 0 0, .slice ad n cap]).run P w = .ok (.slice ad' n cap') w' ∧ (0 < n → ad' = some ⟨w.heap.size, 0, none⟩ ∧ RowF w' w.heap.size (n * z) c) ∧ Below w.heap.size w w' ∧ n ≤ cap' ∧ (n = 0 → cap' = 0) ∧ (0 < n → zv.cells.size = z → Room w' w.heap.size (cap' * z)) ∧ (∃ g, ad' = some ⟨g, 0, none⟩) := by
  rcases Nat.eq_zero_or_pos n with h0 | h0
  · subst h0
    obtain ⟨i0, hi0, hz0, hz1, hz2⟩ := info_parts hinf
    have hs : Src P z t (.slice ad 0 cap) 0 [] w := by
      have := hc.src (cap := cap) hz ht
      rw [Nat.zero_mul] at this
      exact this
    have hrun := run_append_room_src (P := P) w t t ty e i0 ht hi0 b 0 0 0 (.slice ad 0 cap) 0 [] (by rw [hz1]; exact hs) (Nat.le_refl _) (fun j hj => absurd hj (Nat.not_lt_zero _)) (fun j hj => absurd hj (Nat.not_lt_zero _))
    exact ⟨_, _, _, hrun, fun h => absurd h (Nat.lt_irrefl _), Below.refl _ _, Nat.le_refl _, fun _ => rfl, fun h => absurd h (Nat.lt_irrefl _), ⟨_, rfl⟩⟩
  · obtain ⟨cap', w', h1, h2, h3, h4, h5⟩ := append_grow (P := P) w t ty e z bytes zv ht hinf hz 0 0 lo hi (some ⟨b, 0, none⟩) 0 0 (fun _ => undef) ⟨fun j hj => absurd hj (by rw [Nat.zero_mul]; exact Nat.not_lt_zero _), fun j hj => absurd hj (by rw [Nat.zero_mul]; exact Nat.not_lt_zero _)⟩ ad n cap c hc (by omega) (by omega) (by rw [Nat.zero_add]; exact hb)
    rw [Nat.zero_add] at h1 h2 h4
    refine ⟨_, cap', w', h1, fun _ => ⟨rfl, h2.congr (fun j _ => ?_)⟩, h3, h4, fun h => absurd h (by omega), fun _ => h5, ⟨_, rfl⟩⟩
    unfold catF
    rw [Nat.zero_mul, if_neg (Nat.not_lt_zero _), Nat.sub_zero]
theorem FrP.of_grown {w w' : World} {row : Option Nat} (h : w.grownBy w' row) : FrP (fun q => row = some q) w w' := ⟨h.os, h.tape, h.output, h.size, fun k hk ho => h.block k hk (fun e => ho e.symm)⟩
theorem ownsRow_fr {w w' : World} {base e z n : Nat} {v : Value} {xs : List Value} {P : Nat → Prop} (h : w.ownsRow base e z v n xs) (hf : FrP P w w') (hp : ∀ g, v.ownBlock = some g → ¬ P g) : w'.ownsRow base e z v n xs := by
  refine ⟨h.1, ?_⟩
  rcases h.2 with h0 | ⟨g, cap, cur, rfl, h1, h2, h3⟩
  · exact Or.inl h0
  · exact Or.inr ⟨g, cap, cur, rfl, h1, (hf.block g (Array.getElem?_eq_some_iff.1 h2).1 (hp g rfl)).trans h2, h3⟩
theorem alloc_news (w : World) (l : List Value) (t : TypeId) : ∀ j u, l[j]? = some u → (w.alloc (.cells l.toArray t)).cell? ((⟨w.heap.size, 0, none⟩ : Addr).add j) = some u := by
  intro j u h
  rw [show ((⟨w.heap.size, 0, none⟩ : Addr).add j) = ⟨w.heap.size, j, none⟩ by unfold Addr.add; split <;> simp_all, World.cell?_alloc_new]
  simpa using h
def appF (c : Nat → Value) (m : Nat) (news : List Value) : Nat → Value := fun j => if j < m then c j else news.getD (j - m) (.int .i64 0)
theorem appF_zero (c : Nat → Value) (m : Nat) (news : List Value) : appF c m news m = news.getD 0 (.int .i64 0) := by
  unfold appF
  rw [if_neg (Nat.lt_irrefl _), Nat.sub_self]
theorem appF_at (c : Nat → Value) (m : Nat) (news : List Value) (j : Nat) : appF c m news (m + j) = news.getD j (.int .i64 0) := by
  unfold appF
  rw [if_neg (by omega), Nat.add_sub_cancel_left]
theorem rowCells_append (c : Nat → Value) (m : Nat) (news : List Value) : rowCells m c ++ news = rowCells (m + news.length) (appF c m news) := by
  apply List.ext_getElem
  · simp [rowCells]
  · intro j h1 h2
    have hj : j < m + news.length := by simpa [rowCells] using h2
    rw [rowCells_at, List.getElem_append]
    unfold appF
    by_cases h : j < m
    · rw [dif_pos (by rw [rowCells_len]; exact h), rowCells_at, if_pos h]
    · rw [dif_neg (by rw [rowCells_len]; exact h), if_neg h]
      simp only [rowCells_len]
      rw [List.getD_eq_getElem?_getD, List.getElem?_eq_getElem (by omega)]
      rfl
theorem row_of_own {w : World} {base e z n g cap : Nat} {c : Nat → Value} (h : w.ownsRow base e z (.slice (some ⟨g, 0, none⟩) n cap) n (rowCells (n * z) c)) : RowF w g (n * z) c := by
  refine ⟨(h.lt g rfl).2, fun j => h.frozenAt j, fun j hj => ?_⟩
  rw [h.cellAt j hj, List.getElem?_eq_getElem (by rw [rowCells_len]; exact hj), rowCells_at]
/-- a list that is being built by appends -/
structure BdMs (w : World) (base : Nat) (v : Value) (k : Nat) (x : Nat → Ms) (A : Nat → Option Addr) (C hb : Nat → Nat) : Prop where
  row : ∃ c, w.ownsRow base 73 8 v k (rowCells (k * 8) c) ∧ ∀ i, i < k → atMs c i (x i) (A i) (C i)
  hold : ∀ i, i < k → SlsAt w (A i) (hb i) (x i).n (x i).s
  hlt : ∀ i, i < k → (x i).n ≠ 0 → base ≤ hb i ∧ hb i < w.heap.size
  ne : ∀ i, i < k → (x i).n ≠ 0 → v.ownBlock ≠ some (hb i)
  inj : ∀ i j, i < k → j < k → (x i).n ≠ 0 → (x j).n ≠ 0 → hb i = hb j → i = j
theorem BdMs.fr {w : World} {base : Nat} {v : Value} {k : Nat} {x : Nat → Ms} {A : Nat → Option Addr} {C hb : Nat → Nat} {w' : World} {P : Nat → Prop} (h : BdMs w base v k x A C hb) (hf : FrP P w w') (hp : ∀ q, base ≤ q → q < w.heap.size → ¬ P q) : BdMs w' base v k x A C hb :=
  ⟨by obtain ⟨c, r, e⟩ := h.row; exact ⟨c, ownsRow_fr r hf (fun g hg => hp g (r.lt g hg).1 (r.lt g hg).2), e⟩, fun i hi => (h.hold i hi).frP hf (fun h0 => ⟨hp _ (h.hlt i hi h0).1 (h.hlt i hi h0).2, (h.hlt i hi h0).2⟩), fun i hi h0 => ⟨(h.hlt i hi h0).1, Nat.lt_of_lt_of_le (h.hlt i hi h0).2 hf.size⟩, h.ne, h.inj⟩
theorem BdMs.grow {w : World} {base : Nat} {v : Value} {k : Nat} {x : Nat → Ms} {A : Nat → Option Addr} {C hb : Nat → Nat} {w' : World} (h : BdMs w base v k x A C hb) (hf : Below w.heap.size w w') : BdMs w' base v k x A C hb := h.fr (FrP.of_below (P := fun _ => False) hf) (fun _ _ _ h => h)
theorem BdMs.app {w : World} {base : Nat} {v : Value} {k : Nat} {x : Nat → Ms} {A : Nat → Option Addr} {C hb : Nat → Nat} {w' : World} {v' : Value} {c : Nat → Value} {ad' : Option Addr} {cap' b' : Nat} (h : BdMs w base v k x A C hb) (hat : ∀ i, i < k → atMs c i (x i) (A i) (C i))
    (ho : w'.ownsRow base 73 8 v' (k + 1) (rowCells (k * 8) c ++ [.int .i64 (x k).kind, .int .i64 (x k).from_, .int .i64 (x k).to, .int .i64 (x k).bal, .int .i64 (x k).ix, .int .i64 (x k).kn, .string (x k).text, .slice ad' (x k).n cap'])) (hg : w.grownBy w' v.ownBlock) (hw : v'.ownBlock = v.ownBlock ∨ v'.ownBlock = some w.heap.size)
    (hs : SlsAt w ad' b' (x k).n (x k).s) (hl : (x k).n ≠ 0 → base ≤ b' ∧ b' < w.heap.size) (hv : (x k).n ≠ 0 → v.ownBlock ≠ some b') (hd : ∀ i, i < k → (x i).n ≠ 0 → (x k).n ≠ 0 → hb i ≠ b') :
    BdMs w' base v' (k + 1) x (updF A k ad') (updF C k cap') (updF hb k b') := by
  have F := FrP.of_grown hg
  refine ⟨⟨appF c (k * 8) [.int .i64 (x k).kind, .int .i64 (x k).from_, .int .i64 (x k).to, .int .i64 (x k).bal, .int .i64 (x k).ix, .int .i64 (x k).kn, .string (x k).text, .slice ad' (x k).n cap'], ?_, fun i hi => ?_⟩, fun i hi => ?_, fun i hi h0 => ?_, fun i hi h0 => ?_, fun i j hi hj h0 h1 e => ?_⟩
  · rw [rowCells_append] at ho
    have e : k * 8 + ([.int .i64 (x k).kind, .int .i64 (x k).from_, .int .i64 (x k).to, .int .i64 (x k).bal, .int .i64 (x k).ix, .int .i64 (x k).kn, .string (x k).text, .slice ad' (x k).n cap'] : List Value).length = (k + 1) * 8 := by show k * 8 + 8 = _; omega
    rw [e] at ho
    exact ho
  · by_cases e : i = k
    · subst e
      rw [updF_same, updF_same]
      exact ⟨appF_zero _ _ _, appF_at _ _ _ 1, appF_at _ _ _ 2, appF_at _ _ _ 3, appF_at _ _ _ 4, appF_at _ _ _ 5, appF_at _ _ _ 6, appF_at _ _ _ 7⟩
    · rw [updF_ne _ _ e, updF_ne _ _ e]
      obtain ⟨a0, a1, a2, a3, a4, a5, a6, a7⟩ := hat i (by omega)
      exact ⟨(if_pos (by omega)).trans a0, (if_pos (by omega)).trans a1, (if_pos (by omega)).trans a2, (if_pos (by omega)).trans a3, (if_pos (by omega)).trans a4, (if_pos (by omega)).trans a5, (if_pos (by omega)).trans a6, (if_pos (by omega)).trans a7⟩
  · by_cases e : i = k
    · subst e
      rw [updF_same, updF_same]
      exact hs.frP F (fun h0 => ⟨hv h0, (hl h0).2⟩)
    · rw [updF_ne _ _ e, updF_ne _ _ e]
      exact (h.hold i (by omega)).frP F (fun h0 => ⟨h.ne i (by omega) h0, (h.hlt i (by omega) h0).2⟩)
  · by_cases e : i = k
    · subst e
      rw [updF_same]
      exact ⟨(hl h0).1, Nat.lt_of_lt_of_le (hl h0).2 hg.size⟩
    · rw [updF_ne _ _ e]
      exact ⟨(h.hlt i (by omega) h0).1, Nat.lt_of_lt_of_le (h.hlt i (by omega) h0).2 hg.size⟩
  · by_cases e : i = k
    · subst e
      rw [updF_same]
      rcases hw with hw | hw
      · rw [hw]; exact hv h0
      · rw [hw]; intro q; cases q; exact Nat.lt_irrefl _ (hl h0).2
    · rw [updF_ne _ _ e]
      rcases hw with hw | hw
      · rw [hw]; exact h.ne i (by omega) h0
      · rw [hw]; intro q
        have h2 := (h.hlt i (by omega) h0).2
        injection q with q
        omega
  · by_cases e1 : i = k
    · by_cases e2 : j = k
      · rw [e1, e2]
      · subst e1
        rw [updF_same, updF_ne _ _ e2] at e
        exact absurd e.symm (hd j (by omega) h1 h0)
    · by_cases e2 : j = k
      · subst e2
        rw [updF_same, updF_ne _ _ e1] at e
        exact absurd e (hd i (by omega) h0 h1)
      · rw [updF_ne _ _ e1, updF_ne _ _ e2] at e
        exact h.inj i j (by omega) (by omega) h0 h1 e
theorem BdMs.done {w : World} {base : Nat} {v : Value} {k : Nat} {x : Nat → Ms} {A : Nat → Option Addr} {C hb : Nat → Nat} (h : BdMs w base v k x A C hb) : ∃ ad cap g, v = .slice ad k cap ∧ MssAt w ad g k x A C hb ∧ ∀ q, blkH g k (fun i => (x i).n) hb q → base ≤ q := by
  obtain ⟨c, r, hat⟩ := h.row
  rcases r.2 with ⟨rfl, rfl⟩ | ⟨g, cap, cur, rfl, h1, _⟩
  · exact ⟨none, 0, 0, rfl, ⟨fun h0 => absurd h0 (Nat.lt_irrefl _), fun h0 => absurd h0 (Nat.lt_irrefl _), fun i hi => absurd hi (Nat.not_lt_zero _), fun i hi => absurd hi (Nat.not_lt_zero _), ⟨fun i hi => absurd hi (Nat.not_lt_zero _), fun i j hi => absurd hi (Nat.not_lt_zero _)⟩⟩, fun q hq => by
      rcases hq with ⟨h0, _⟩ | ⟨i, hi, _⟩
      · exact absurd h0 (Nat.lt_irrefl _)
      · exact absurd hi (Nat.not_lt_zero _)⟩
  · refine ⟨_, cap, g, rfl, ⟨fun _ => rfl, fun _ => ⟨c, row_of_own r, hat⟩, h.hold, fun i hi h0 => (h.hlt i hi h0).2, ⟨fun i hi h0 e => h.ne i hi h0 (by rw [e]; rfl), h.inj⟩⟩, fun q hq => ?_⟩
    rcases hq with ⟨h0, rfl⟩ | ⟨i, hi, h0, rfl⟩
    · exact h1
    · exact (h.hlt i hi h0).1
/-- a list that is being built by appends -/
structure BdAk (w : World) (base : Nat) (v : Value) (k : Nat) (x : Nat → Ak) (A : Nat → Option Addr) (C hb : Nat → Nat) : Prop where
  row : ∃ c, w.ownsRow base 97 2 v k (rowCells (k * 2) c) ∧ ∀ i, i < k → atAk c i (x i) (A i) (C i)
  hold : ∀ i, i < k → IntsOwn w (hb i) ((hb i) + 1) (A i) (x i).n (x i).s
  hlt : ∀ i, i < k → (x i).n ≠ 0 → base ≤ hb i ∧ hb i < w.heap.size
  ne : ∀ i, i < k → (x i).n ≠ 0 → v.ownBlock ≠ some (hb i)
  inj : ∀ i j, i < k → j < k → (x i).n ≠ 0 → (x j).n ≠ 0 → hb i = hb j → i = j
theorem BdAk.fr {w : World} {base : Nat} {v : Value} {k : Nat} {x : Nat → Ak} {A : Nat → Option Addr} {C hb : Nat → Nat} {w' : World} {P : Nat → Prop} (h : BdAk w base v k x A C hb) (hf : FrP P w w') (hp : ∀ q, base ≤ q → q < w.heap.size → ¬ P q) : BdAk w' base v k x A C hb :=
  ⟨by obtain ⟨c, r, e⟩ := h.row; exact ⟨c, ownsRow_fr r hf (fun g hg => hp g (r.lt g hg).1 (r.lt g hg).2), e⟩, fun i hi => (h.hold i hi).frP hf (fun h0 => ⟨hp _ (h.hlt i hi h0).1 (h.hlt i hi h0).2, (h.hlt i hi h0).2⟩), fun i hi h0 => ⟨(h.hlt i hi h0).1, Nat.lt_of_lt_of_le (h.hlt i hi h0).2 hf.size⟩, h.ne, h.inj⟩
theorem BdAk.grow {w : World} {base : Nat} {v : Value} {k : Nat} {x : Nat → Ak} {A : Nat → Option Addr} {C hb : Nat → Nat} {w' : World} (h : BdAk w base v k x A C hb) (hf : Below w.heap.size w w') : BdAk w' base v k x A C hb := h.fr (FrP.of_below (P := fun _ => False) hf) (fun _ _ _ h => h)
theorem BdAk.app {w : World} {base : Nat} {v : Value} {k : Nat} {x : Nat → Ak} {A : Nat → Option Addr} {C hb : Nat → Nat} {w' : World} {v' : Value} {c : Nat → Value} {ad' : Option Addr} {cap' b' : Nat} (h : BdAk w base v k x A C hb) (hat : ∀ i, i < k → atAk c i (x i) (A i) (C i))
    (ho : w'.ownsRow base 97 2 v' (k + 1) (rowCells (k * 2) c ++ [.int .i64 (x k).ix, .slice ad' (x k).n cap'])) (hg : w.grownBy w' v.ownBlock) (hw : v'.ownBlock = v.ownBlock ∨ v'.ownBlock = some w.heap.size)
    (hs : IntsOwn w b' (b' + 1) ad' (x k).n (x k).s) (hl : (x k).n ≠ 0 → base ≤ b' ∧ b' < w.heap.size) (hv : (x k).n ≠ 0 → v.ownBlock ≠ some b') (hd : ∀ i, i < k → (x i).n ≠ 0 → (x k).n ≠ 0 → hb i ≠ b') :
    BdAk w' base v' (k + 1) x (updF A k ad') (updF C k cap') (updF hb k b') := by
  have F := FrP.of_grown hg
  refine ⟨⟨appF c (k * 2) [.int .i64 (x k).ix, .slice ad' (x k).n cap'], ?_, fun i hi => ?_⟩, fun i hi => ?_, fun i hi h0 => ?_, fun i hi h0 => ?_, fun i j hi hj h0 h1 e => ?_⟩
  · rw [rowCells_append] at ho
    have e : k * 2 + ([.int .i64 (x k).ix, .slice ad' (x k).n cap'] : List Value).length = (k + 1) * 2 := by show k * 2 + 2 = _; omega
    rw [e] at ho
    exact ho
  · by_cases e : i = k
    · subst e
      rw [updF_same, updF_same]
      exact ⟨appF_zero _ _ _, appF_at _ _ _ 1⟩
    · rw [updF_ne _ _ e, updF_ne _ _ e]
      obtain ⟨a0, a1⟩ := hat i (by omega)
      exact ⟨(if_pos (by omega)).trans a0, (if_pos (by omega)).trans a1⟩
  · by_cases e : i = k
    · subst e
      rw [updF_same, updF_same]
      exact hs.frP F (fun h0 => ⟨hv h0, (hl h0).2⟩)
    · rw [updF_ne _ _ e, updF_ne _ _ e]
      exact (h.hold i (by omega)).frP F (fun h0 => ⟨h.ne i (by omega) h0, (h.hlt i (by omega) h0).2⟩)
  · by_cases e : i = k
    · subst e
      rw [updF_same]
      exact ⟨(hl h0).1, Nat.lt_of_lt_of_le (hl h0).2 hg.size⟩
    · rw [updF_ne _ _ e]
      exact ⟨(h.hlt i (by omega) h0).1, Nat.lt_of_lt_of_le (h.hlt i (by omega) h0).2 hg.size⟩
  · by_cases e : i = k
    · subst e
      rw [updF_same]
      rcases hw with hw | hw
      · rw [hw]; exact hv h0
      · rw [hw]; intro q; cases q; exact Nat.lt_irrefl _ (hl h0).2
    · rw [updF_ne _ _ e]
      rcases hw with hw | hw
      · rw [hw]; exact h.ne i (by omega) h0
      · rw [hw]; intro q
        have h2 := (h.hlt i (by omega) h0).2
        injection q with q
        omega
  · by_cases e1 : i = k
    · by_cases e2 : j = k
      · rw [e1, e2]
      · subst e1
        rw [updF_same, updF_ne _ _ e2] at e
        exact absurd e.symm (hd j (by omega) h1 h0)
    · by_cases e2 : j = k
      · subst e2
        rw [updF_same, updF_ne _ _ e1] at e
        exact absurd e (hd i (by omega) h0 h1)
      · rw [updF_ne _ _ e1, updF_ne _ _ e2] at e
        exact h.inj i j (by omega) (by omega) h0 h1 e
theorem BdAk.done {w : World} {base : Nat} {v : Value} {k : Nat} {x : Nat → Ak} {A : Nat → Option Addr} {C hb : Nat → Nat} (h : BdAk w base v k x A C hb) : ∃ ad cap g, v = .slice ad k cap ∧ AksAt w ad g k x A C hb ∧ ∀ q, blkH g k (fun i => (x i).n) hb q → base ≤ q := by
  obtain ⟨c, r, hat⟩ := h.row
  rcases r.2 with ⟨rfl, rfl⟩ | ⟨g, cap, cur, rfl, h1, _⟩
  · exact ⟨none, 0, 0, rfl, ⟨fun h0 => absurd h0 (Nat.lt_irrefl _), fun h0 => absurd h0 (Nat.lt_irrefl _), fun i hi => absurd hi (Nat.not_lt_zero _), fun i hi => absurd hi (Nat.not_lt_zero _), ⟨fun i hi => absurd hi (Nat.not_lt_zero _), fun i j hi => absurd hi (Nat.not_lt_zero _)⟩⟩, fun q hq => by
      rcases hq with ⟨h0, _⟩ | ⟨i, hi, _⟩
      · exact absurd h0 (Nat.lt_irrefl _)
      · exact absurd hi (Nat.not_lt_zero _)⟩
  · refine ⟨_, cap, g, rfl, ⟨fun _ => rfl, fun _ => ⟨c, row_of_own r, hat⟩, h.hold, fun i hi h0 => (h.hlt i hi h0).2, ⟨fun i hi h0 e => h.ne i hi h0 (by rw [e]; rfl), h.inj⟩⟩, fun q hq => ?_⟩
    rcases hq with ⟨h0, rfl⟩ | ⟨i, hi, h0, rfl⟩
    · exact h1
    · exact (h.hlt i hi h0).1
end Go.Proofs.Ytkcgfjnmkbbnoaa
namespace Go.Proofs.Ytkcgfjnmkbbnoaa
open Go.RowKit
theorem MssAt.blt {w : World} {ad : Option Addr} {g n : Nat} {x : Nat → Ms} {A : Nat → Option Addr} {C hb : Nat → Nat} (h : MssAt w ad g n x A C hb) {k : Nat} (hk : blkH g n (fun i => (x i).n) hb k) : k < w.heap.size := by
  rcases hk with ⟨h0, rfl⟩ | ⟨i, hi, h0, rfl⟩
  · obtain ⟨c, r, _⟩ := h.row h0; exact r.lt
  · exact h.hlt i hi h0
theorem AksAt.blt {w : World} {ad : Option Addr} {g n : Nat} {x : Nat → Ak} {A : Nat → Option Addr} {C hb : Nat → Nat} (h : AksAt w ad g n x A C hb) {k : Nat} (hk : blkH g n (fun i => (x i).n) hb k) : k < w.heap.size := by
  rcases hk with ⟨h0, rfl⟩ | ⟨i, hi, h0, rfl⟩
  · obtain ⟨c, r, _⟩ := h.row h0; exact r.lt
  · exact h.hlt i hi h0
end Go.Proofs.Ytkcgfjnmkbbnoaa
