import Derived.Test.YtkecnaaacbckoaaGn
import Derived.Test.YtkecnaaacbckoaaGx
import Derived.Test.YtkecnaaacbckoaaOb
import Derived.Test.YtkecnaaacbckoaaGw
namespace Go.Proofs.Ytkecnaaacbckoaa
open Go.RowKit Go.Maps
/-- an object of a row, with where its holds lie -/
structure EO where
  ob : Ob
  A : Option Addr
  C : Nat
  hb : Nat
instance : Inhabited EO := ⟨⟨⟨ByteArray.empty, ByteArray.empty, 0, 0, ByteArray.empty, false, 0, fun _ => ByteArray.empty⟩, none, 0, 0⟩⟩
def ixE (L : List EO) (i : Nat) : EO := (L[i]?).getD default
theorem ixE_lt {L : List EO} {i : Nat} (h : i < L.length) : ixE L i = L[i] := by simp [ixE, h]
theorem ixE_mem {L : List EO} {i : Nat} (h : i < L.length) : ixE L i ∈ L := by rw [ixE_lt h]; exact List.getElem_mem h
theorem mem_ixE {L : List EO} {e : EO} (h : e ∈ L) : ∃ i, i < L.length ∧ ixE L i = e := by
  obtain ⟨i, hi, rfl⟩ := List.mem_iff_getElem.1 h
  exact ⟨i, hi, ixE_lt hi⟩
theorem ixE_left {K L : List EO} {i : Nat} (h : i < K.length) : ixE (K ++ L) i = ixE K i := by simp [ixE, List.getElem?_append_left h]
theorem ixE_right {K L : List EO} {i : Nat} : ixE (K ++ L) (K.length + i) = ixE L i := by simp [ixE, List.getElem?_append_right]
/-- the cells of a row -/
structure RowE (w : World) (g : Nat) (L : List EO) : Prop where
  lt : g < w.heap.size
  free : ∀ j, w.frozen? ⟨g, j, none⟩ = false
  ob : ∀ i, i < L.length → ObCells w g (i * 7) (ixE L i).ob (ixE L i).A (ixE L i).C
theorem ObCells.frP {w w' : World} {P : Nat → Prop} {b o : Nat} {x : Ob} {ad : Option Addr} {cap : Nat} (h : ObCells w b o x ad cap) (hf : FrP P w w') (hb : b < w.heap.size) (hp : ¬ P b) : ObCells w' b o x ad cap :=
  have e : ∀ j, w'.cell? ⟨b, j, none⟩ = w.cell? ⟨b, j, none⟩ := fun j => hf.cell (p := ⟨b, j, none⟩) hb hp
  ⟨(e _).trans h.c0, (e _).trans h.c1, (e _).trans h.c2, (e _).trans h.c3, (e _).trans h.c4, (e _).trans h.c5, (e _).trans h.c6⟩
theorem RowE.fr {w w' : World} {P : Nat → Prop} {g : Nat} {L : List EO} (h : RowE w g L) (hf : FrP P w w') (hp : ¬ P g) : RowE w' g L :=
  ⟨Nat.lt_of_lt_of_le h.lt hf.size, fun j => (hf.frozen (p := ⟨g, j, none⟩) h.lt hp).trans (h.free j), fun i hi => (h.ob i hi).frP hf h.lt hp⟩
theorem RowE.grow {w w' : World} {g : Nat} {L : List EO} (h : RowE w g L) (hf : Below w.heap.size w w') : RowE w' g L := h.fr (FrP.of_below (P := fun _ => False) hf) (fun h => h)
/-- the holds of a row: each has a block of its own -/
structure HoldE (w : World) (L : List EO) : Prop where
  hold : ∀ e, e ∈ L → StrsOwn w e.hb (e.hb + 1) e.A e.ob.hn e.ob.hs
  lt : ∀ e, e ∈ L → e.ob.hn ≠ 0 → e.hb < w.heap.size
  ap : L.Pairwise fun e f => e.ob.hn ≠ 0 → f.ob.hn ≠ 0 → e.hb ≠ f.hb
theorem HoldE.fr {w w' : World} {P : Nat → Prop} {L : List EO} (h : HoldE w L) (hf : FrP P w w') (hp : ∀ e, e ∈ L → e.ob.hn ≠ 0 → ¬ P e.hb) : HoldE w' L :=
  ⟨fun e he => (h.hold e he).frP hf (fun h0 => ⟨hp e he h0, h.lt e he h0⟩), fun e he h0 => Nat.lt_of_lt_of_le (h.lt e he h0) hf.size, h.ap⟩
theorem HoldE.grow {w w' : World} {L : List EO} (h : HoldE w L) (hf : Below w.heap.size w w') : HoldE w' L := h.fr (FrP.of_below (P := fun _ => False) hf) (fun _ _ _ h => h)
theorem HoldE.sub {w : World} {K L : List EO} (h : HoldE w L) (hs : K.Sublist L) : HoldE w K :=
  ⟨fun e he => h.hold e (hs.subset he), fun e he => h.lt e (hs.subset he), h.ap.sublist hs⟩
theorem HoldE.ins {w : World} {K L : List EO} {e : EO} (h : HoldE w (K ++ L)) (ho : StrsOwn w e.hb (e.hb + 1) e.A e.ob.hn e.ob.hs) (hl : e.ob.hn ≠ 0 → e.hb < w.heap.size) (hne : ∀ f, f ∈ K ++ L → e.ob.hn ≠ 0 → f.ob.hn ≠ 0 → e.hb ≠ f.hb) : HoldE w (K ++ e :: L) := by
  have hm : ∀ f, f ∈ K ++ e :: L → f = e ∨ f ∈ K ++ L := fun f hf => by
    rcases List.mem_append.1 hf with h1 | h1
    · exact Or.inr (List.mem_append_left _ h1)
    · rcases List.mem_cons.1 h1 with h2 | h2
      · exact Or.inl h2
      · exact Or.inr (List.mem_append_right _ h2)
  refine ⟨fun f hf => ?_, fun f hf => ?_, ?_⟩
  · rcases hm f hf with rfl | h1
    · exact ho
    · exact h.hold f h1
  · rcases hm f hf with rfl | h1
    · exact hl
    · exact h.lt f h1
  · obtain ⟨p1, p2, p3⟩ := List.pairwise_append.1 h.ap
    refine List.pairwise_append.2 ⟨p1, List.pairwise_cons.2 ⟨fun f hf => hne f (List.mem_append_right _ hf), p2⟩, fun a ha b hb => ?_⟩
    rcases List.mem_cons.1 hb with rfl | h2
    · exact fun h1 h2 e => hne a (List.mem_append_left _ ha) h2 h1 e.symm
    · exact p3 a ha b h2
theorem RowE.cellAt {w : World} {g : Nat} {L : List EO} (h : RowE w g L) {j : Nat} (hj : j < L.length * 7) : ∃ v, w.cell? ⟨g, j, none⟩ = some v := by
  have hi : j / 7 < L.length := by omega
  obtain ⟨c0, c1, c2, c3, c4, c5, c6⟩ := h.ob (j / 7) hi
  have hr : j % 7 = 0 ∨ j % 7 = 1 ∨ j % 7 = 2 ∨ j % 7 = 3 ∨ j % 7 = 4 ∨ j % 7 = 5 ∨ j % 7 = 6 := by omega
  rcases hr with e | e | e | e | e | e | e
  · exact ⟨_, by rw [show j = j / 7 * 7 by omega]; exact c0⟩
  · exact ⟨_, by rw [show j = j / 7 * 7 + 1 by omega]; exact c1⟩
  · exact ⟨_, by rw [show j = j / 7 * 7 + 2 by omega]; exact c2⟩
  · exact ⟨_, by rw [show j = j / 7 * 7 + 3 by omega]; exact c3⟩
  · exact ⟨_, by rw [show j = j / 7 * 7 + 4 by omega]; exact c4⟩
  · exact ⟨_, by rw [show j = j / 7 * 7 + 5 by omega]; exact c5⟩
  · exact ⟨_, by rw [show j = j / 7 * 7 + 6 by omega]; exact c6⟩
/-- a row with its holds is a list that lies by itself -/
theorem obsAt_of {w : World} {ad : Option Addr} {g : Nat} {L : List EO} (had : L ≠ [] → ad = some ⟨g, 0, none⟩) (hr : L ≠ [] → RowE w g L) (hh : HoldE w L) (hne : ∀ e, e ∈ L → e.ob.hn ≠ 0 → e.hb ≠ g) :
    ObsAt w ad g L.length (fun i => (ixE L i).ob) (fun i => (ixE L i).A) (fun i => (ixE L i).C) (fun i => (ixE L i).hb) := by
  have nn : 0 < L.length → L ≠ [] := fun h e => by rw [e] at h; exact absurd h (Nat.lt_irrefl _)
  refine ⟨fun h0 => had (nn h0), fun h0 => ?_, fun i hi => hh.hold _ (ixE_mem hi), fun i hi h0 => hh.lt _ (ixE_mem hi) h0, ⟨fun i hi h0 => hne _ (ixE_mem hi) h0, fun i j hi hj h1 h2 e => ?_⟩⟩
  · have r := hr (nn h0)
    have hc : ∀ o v, w.cell? ⟨g, o, none⟩ = some v → (w.cell? ⟨g, o, none⟩).getD (.int .i64 0) = v := fun o v e => by rw [e]; rfl
    refine ⟨fun j => (w.cell? ⟨g, j, none⟩).getD (.int .i64 0), ⟨r.lt, r.free, fun j hj => ?_⟩, fun i hi => ?_⟩
    · obtain ⟨v, e⟩ := r.cellAt hj
      rw [e]
      rfl
    · obtain ⟨c0, c1, c2, c3, c4, c5, c6⟩ := r.ob i hi
      exact ⟨hc _ _ c0, hc _ _ c1, hc _ _ c2, hc _ _ c3, hc _ _ c4, hc _ _ c5, hc _ _ c6⟩
  · rcases Nat.lt_trichotomy i j with h | h | h
    · exfalso
      have := List.pairwise_iff_getElem.1 hh.ap i j hi hj h
      rw [← ixE_lt hi, ← ixE_lt hj] at this
      exact this h1 h2 e
    · exact h
    · exfalso
      have := List.pairwise_iff_getElem.1 hh.ap j i hj hi h
      rw [← ixE_lt hi, ← ixE_lt hj] at this
      exact this h2 h1 e.symm
/-- and the other way -/
def rowE (n : Nat) (x : Nat → Ob) (A : Nat → Option Addr) (C hb : Nat → Nat) : List EO := (List.range n).map fun i => ⟨x i, A i, C i, hb i⟩
theorem rowE_len (n : Nat) (x : Nat → Ob) (A : Nat → Option Addr) (C hb : Nat → Nat) : (rowE n x A C hb).length = n := by simp [rowE]
theorem rowE_at {n : Nat} {x : Nat → Ob} {A : Nat → Option Addr} {C hb : Nat → Nat} {i : Nat} (h : i < n) : ixE (rowE n x A C hb) i = ⟨x i, A i, C i, hb i⟩ := by simp [ixE, rowE, h]
theorem rowE_of {w : World} {ad : Option Addr} {g n : Nat} {x : Nat → Ob} {A : Nat → Option Addr} {C hb : Nat → Nat} (h : ObsAt w ad g n x A C hb) :
    (rowE n x A C hb ≠ [] → ad = some ⟨g, 0, none⟩ ∧ RowE w g (rowE n x A C hb)) ∧ HoldE w (rowE n x A C hb) ∧ ∀ e, e ∈ rowE n x A C hb → e.ob.hn ≠ 0 → e.hb ≠ g := by
  have hm : ∀ e, e ∈ rowE n x A C hb → ∃ i, i < n ∧ e = ⟨x i, A i, C i, hb i⟩ := fun e he => by
    obtain ⟨i, hi, rfl⟩ := mem_ixE he
    rw [rowE_len] at hi
    exact ⟨i, hi, rowE_at hi⟩
  refine ⟨fun h0 => ?_, ⟨fun e he => ?_, fun e he => ?_, ?_⟩, fun e he => ?_⟩
  · have hn : 0 < n := by
      rcases Nat.eq_zero_or_pos n with e | e
      · subst e; exact absurd rfl h0
      · exact e
    obtain ⟨c, r, hc⟩ := h.row hn
    refine ⟨h.addr hn, r.lt, r.free, fun i hi => ?_⟩
    rw [rowE_len] at hi
    rw [rowE_at hi]
    obtain ⟨a0, a1, a2, a3, a4, a5, a6⟩ := hc i hi
    exact ⟨(r.cell _ (by omega)).trans (congrArg some a0), (r.cell _ (by omega)).trans (congrArg some a1), (r.cell _ (by omega)).trans (congrArg some a2), (r.cell _ (by omega)).trans (congrArg some a3), (r.cell _ (by omega)).trans (congrArg some a4), (r.cell _ (by omega)).trans (congrArg some a5), (r.cell _ (by omega)).trans (congrArg some a6)⟩
  · obtain ⟨i, hi, rfl⟩ := hm e he
    exact h.hold i hi
  · obtain ⟨i, hi, rfl⟩ := hm e he
    exact h.hlt i hi
  · refine List.pairwise_iff_getElem.2 fun i j hi hj hij => ?_
    rw [← ixE_lt hi, ← ixE_lt hj]
    rw [rowE_len] at hi hj
    rw [rowE_at hi, rowE_at hj]
    exact fun h1 h2 e => absurd (h.ap.inj i j hi hj h1 h2 e) (by omega)
  · obtain ⟨i, hi, rfl⟩ := hm e he
    exact h.ap.ne i hi
theorem rowE_obs (n : Nat) (x : Nat → Ob) (A : Nat → Option Addr) (C hb : Nat → Nat) : (rowE n x A C hb).map EO.ob = (List.range n).map x := by simp [rowE]
/-- lists as functions -/
def toL (m : Nat) (y : Nat → Ob) : List Ob := (List.range m).map y
theorem toL_succ (m : Nat) (y : Nat → Ob) : toL (m + 1) y = toL m y ++ [y m] := by simp [toL, List.range_succ]
theorem toL_len (m : Nat) (y : Nat → Ob) : (toL m y).length = m := by simp [toL]
theorem toL_upd (m : Nat) (y : Nat → Ob) (z : Ob) : toL (m + 1) (updF y m z) = toL m y ++ [z] := by
  rw [toL_succ]
  have h1 : toL m (updF y m z) = toL m y := by
    unfold toL
    apply List.map_congr_left
    intro i hi
    have := List.mem_range.1 hi
    exact if_neg (by omega)
  rw [h1]
  simp [updF]
theorem toL_eq {m m' : Nat} {y y' : Nat → Ob} (h : toL m y = toL m' y') : m = m' ∧ ∀ i, i < m → y i = y' i := by
  have h1 : m = m' := by
    have := congrArg List.length h
    simpa [toL] using this
  subst h1
  refine ⟨rfl, fun i hi => ?_⟩
  have := congrArg (fun l => l[i]?) h
  simpa [toL, hi] using this
theorem keyI_neg (x z : Ob) : keyI x z < 0 ↔ befB x z = true := by
  have h := keyI_bef x z
  cases hb : befB x z with
  | true => rw [hb] at h; simp at h; simp; omega
  | false => rw [hb] at h; simp at h; simp; omega
theorem keyI_nil (x z : Ob) : keyI x z = 0 ↔ (x.kind.toList = z.kind.toList ∧ x.name.toList = z.name.toList) := by
  unfold keyI
  constructor
  · intro h
    split at h
    · exact absurd h (by decide)
    · split at h
      · rename_i h2
        split at h
        · exact absurd h (by decide)
        · split at h
          · rename_i h3
            exact ⟨h2, h3⟩
          · exact absurd h (by decide)
      · exact absurd h (by decide)
  · rintro ⟨h1, h2⟩
    rw [if_neg (by rw [ltB_irr h1]; decide), if_pos h1, if_neg (by rw [ltB_irr h2]; decide), if_pos h2]
/-- another key -/
def otherK (o y : Ob) : Bool := decide (¬ keyI y o = 0)
/-- what becomes of a list to which a change comes: o comes ahead of the first that is not less, all of its key go -/
def putG (o : Ob) : List Ob → List Ob
  | [] => [o]
  | y :: r => if befB y o then y :: putG o r else o :: (y :: r).filter (otherK o)
def chgL (o : Ob) (gone : Bool) (l : List Ob) : List Ob := if gone then l.filter (otherK o) else putG o l
/-- as far as spec's loop has come -/
theorem putTo_done {x : Nat → Ob} {o : Ob} : ∀ n, toL (putTo x o true n).m (putTo x o true n).y = (toL n x).filter (otherK o) ∧ (putTo x o true n).done = true
  | 0 => ⟨rfl, rfl⟩
  | n + 1 => by
    obtain ⟨h1, h2⟩ := putTo_done (x := x) (o := o) n
    rw [toL_succ, List.filter_append]
    show toL (putStep o (x n) (putTo x o true n)).m (putStep o (x n) (putTo x o true n)).y = _ ∧ (putStep o (x n) (putTo x o true n)).done = true
    unfold putStep
    rw [h2, if_pos rfl]
    by_cases hk : keyI (x n) o = 0
    · rw [if_pos hk]
      exact ⟨by rw [h1]; simp [otherK, hk], h2⟩
    · rw [if_neg hk]
      exact ⟨by rw [toL_upd, h1]; simp [otherK, hk], rfl⟩
/-- the list on the way, not gone: either all so far are less, or it has come -/
def putW (o : Ob) : List Ob → List Ob × Bool
  | [] => ([], false)
  | y :: r => if befB y o then (y :: (putW o r).1, (putW o r).2) else (o :: (y :: r).filter (otherK o), true)
theorem putW_snoc (o z : Ob) : ∀ l, putW o (l ++ [z]) = if (putW o l).2 then ((putW o l).1 ++ [z].filter (otherK o), true) else if befB z o then ((putW o l).1 ++ [z], false) else ((putW o l).1 ++ (o :: [z].filter (otherK o)), true)
  | [] => by
    simp only [List.nil_append, putW]
    cases befB z o <;> simp
  | y :: r => by
    have ih := putW_snoc o z r
    by_cases hb : befB y o = true
    · simp only [List.cons_append, putW, if_pos hb, ih]
      by_cases h1 : (putW o r).2 = true
      · simp only [if_pos h1]
      · simp only [if_neg h1]
        by_cases h2 : befB z o = true
        · simp only [if_pos h2]
        · simp only [if_neg h2]
    · simp only [List.cons_append, putW, if_neg hb, if_true]
      rw [← List.cons_append, List.filter_append]
theorem putG_W (o : Ob) : ∀ l, putG o l = if (putW o l).2 then (putW o l).1 else (putW o l).1 ++ [o]
  | [] => rfl
  | y :: r => by
    have ih := putG_W o r
    by_cases hb : befB y o = true
    · simp only [putG, putW, if_pos hb, ih]
      by_cases h1 : (putW o r).2 = true
      · simp only [if_pos h1]
      · simp only [if_neg h1, List.cons_append]
    · simp only [putG, putW, if_neg hb, if_true]
theorem putTo_here {x : Nat → Ob} {o : Ob} : ∀ n, toL (putTo x o false n).m (putTo x o false n).y = (putW o (toL n x)).1 ∧ (putTo x o false n).done = (putW o (toL n x)).2
  | 0 => ⟨rfl, rfl⟩
  | n + 1 => by
    obtain ⟨h1, h2⟩ := putTo_here (x := x) (o := o) n
    rw [toL_succ, putW_snoc]
    show toL (putStep o (x n) (putTo x o false n)).m (putStep o (x n) (putTo x o false n)).y = _ ∧ (putStep o (x n) (putTo x o false n)).done = _
    unfold putStep
    rw [h2]
    have kn := keyI_neg (x n) o
    cases hd : (putW o (toL n x)).2 with
    | true =>
      simp only [if_true]
      by_cases hk : keyI (x n) o = 0
      · rw [if_pos hk]
        exact ⟨by rw [h1]; simp [otherK, hk], by rw [h2, hd]⟩
      · rw [if_neg hk]
        exact ⟨by rw [toL_upd, h1]; simp [otherK, hk], rfl⟩
    | false =>
      simp only [Bool.false_eq_true, if_false]
      by_cases hn : keyI (x n) o < 0
      · rw [if_pos hn, if_pos (kn.1 hn)]
        exact ⟨by rw [toL_upd, h1], rfl⟩
      · have hb : ¬ befB (x n) o = true := fun h => hn (kn.2 h)
        rw [if_neg hn, if_neg hb]
        by_cases hk : keyI (x n) o = 0
        · rw [if_pos hk]
          exact ⟨by rw [toL_upd, h1]; simp [otherK, hk], rfl⟩
        · rw [if_neg hk]
          refine ⟨?_, rfl⟩
          show toL ((putTo x o false n).m + 1 + 1) _ = _
          rw [toL_upd, toL_upd, h1]
          simp [otherK, hk]
theorem putAll_list (n : Nat) (x : Nat → Ob) (o : Ob) (gone : Bool) : toL (putAll n x o gone).m (putAll n x o gone).y = chgL o gone (toL n x) := by
  unfold putAll putEnd chgL
  cases gone with
  | true =>
    obtain ⟨h1, h2⟩ := putTo_done (x := x) (o := o) n
    rw [h2]
    simpa using h1
  | false =>
    obtain ⟨h1, h2⟩ := putTo_here (x := x) (o := o) n
    simp only [Bool.false_eq_true, if_false]
    rw [h2, putG_W]
    cases hd : (putW o (toL n x)).2 with
    | true => simpa using h1
    | false =>
      simp only [Bool.false_eq_true, if_false]
      rw [toL_upd, h1]
/-- impl's way: the place of the first that is not less, all of the key out, o in -/
theorem putG_split (o : Ob) : ∀ (l : List Ob) (k : Nat), k ≤ l.length → (∀ j, j < k → ∃ y, l[j]? = some y ∧ befB y o = true) → (k < l.length → ∃ y, l[k]? = some y ∧ befB y o = false) →
    putG o l = (l.filter (otherK o)).take k ++ o :: (l.filter (otherK o)).drop k
  | [], k, hk, _, _ => by simp at hk; subst hk; rfl
  | y :: r, 0, _, _, h2 => by
    obtain ⟨z, e, hz⟩ := h2 (by simp)
    simp at e
    subst e
    simp [putG, hz]
  | y :: r, k + 1, hk, h1, h2 => by
    obtain ⟨z, e, hz⟩ := h1 0 (by omega)
    simp at e
    subst e
    have ho : otherK o y = true := by
      have := (keyI_neg y o).2 hz
      unfold otherK
      exact decide_eq_true (by omega)
    have ih := putG_split o r k (by simpa using hk) (fun j hj => by simpa using h1 (j + 1) (by omega)) (fun hk2 => by simpa using h2 (by simpa using hk2))
    simp only [putG, hz, if_true, List.filter_cons, ho, List.take_succ_cons, List.drop_succ_cons, List.cons_append, ih]
end Go.Proofs.Ytkecnaaacbckoaa
