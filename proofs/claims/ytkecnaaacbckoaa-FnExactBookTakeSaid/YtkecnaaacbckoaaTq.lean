import Derived.Test.YtkecnaaacbckoaaTj
namespace Go.Proofs.Ytkecnaaacbckoaa
open Go.RowKit Go.Maps
/-- how much a list weighs -/
def wtL : List Ob → Nat | [] => 0 | o :: r => (6 + o.hn) + wtL r
theorem wtL_append : ∀ k l, wtL (k ++ l) = wtL k + wtL l
  | [], l => by simp [wtL]
  | o :: r, l => by simp only [List.cons_append, wtL, wtL_append r l]; omega
theorem wtL_filter (p : Ob → Bool) : ∀ l, wtL (l.filter p) ≤ wtL l
  | [] => Nat.le_refl _
  | o :: r => by
    have ih := wtL_filter p r
    rw [List.filter_cons]
    split
    · simp only [wtL]; omega
    · simp only [wtL]; omega
theorem wtL_put (o : Ob) : ∀ l, wtL (putG o l) ≤ wtL l + (6 + o.hn)
  | [] => by simp [putG, wtL]
  | y :: r => by
    have ih := wtL_put o r
    simp only [putG]
    split
    · simp only [wtL]; omega
    · have := wtL_filter (otherK o) (y :: r)
      simp only [wtL] at this ⊢
      omega
theorem wtL_chg (o : Ob) (gone : Bool) (l : List Ob) : wtL (chgL o gone l) ≤ wtL l + (6 + o.hn) := by
  unfold chgL
  split
  · have := wtL_filter (otherK o) l
    omega
  · exact wtL_put o l
theorem mkObs_wt (k0 : Nat) (y : Nat → Ob) : ∀ n, mkObs k0 y n = k0 + wtL (toL n y)
  | 0 => rfl
  | n + 1 => by
    rw [toL_succ, wtL_append, show mkObs k0 y (n + 1) = mkObs k0 y n + 6 + (y n).hn from rfl, mkObs_wt k0 y n]
    simp only [wtL]
    omega
theorem chgL_len' (o : Ob) (gone : Bool) (l : List Ob) : (chgL o gone l).length ≤ l.length + 1 := by
  have hp : ∀ l : List Ob, (putG o l).length ≤ l.length + 1 := fun l => by
    induction l with
    | nil => simp [putG]
    | cons y r ih =>
      simp only [putG]
      split
      · simp; omega
      · have := List.length_filter_le (otherK o) (y :: r)
        simp only [List.length_cons] at this ⊢
        omega
  unfold chgL
  split
  · have := List.length_filter_le (otherK o) l
    omega
  · exact hp l
theorem tkTo_bound (s : TS) (x : Nat → Ch) : ∀ i, (tkTo s x i).l.length ≤ s.l.length + i ∧ wtL (tkTo s x i).l + 1 ≤ wtL s.l + mkChs 1 x i
  | 0 => ⟨Nat.le_refl _, Nat.le_refl _⟩
  | i + 1 => by
    obtain ⟨h1, h2⟩ := tkTo_bound s x i
    have e : mkChs 1 x (i + 1) = mkChs 1 x i + 8 + (x i).ob.hn := rfl
    show (tkStep (x i) (tkTo s x i)).l.length ≤ _ ∧ wtL (tkStep (x i) (tkTo s x i)).l + 1 ≤ _
    unfold tkStep
    split
    · exact ⟨by omega, by omega⟩
    · have h3 := chgL_len' (x i).ob (x i).gone (tkTo s x i).l
      have h4 := wtL_chg (x i).ob (x i).gone (tkTo s x i).l
      exact ⟨by show (chgL _ _ _).length ≤ _; omega, by show wtL (chgL _ _ _) + 1 ≤ _; omega⟩
theorem tkS_bound (m : Mr) (cd fv : Int) (n : Nat) (x : Nat → Ch) : (tkS m cd fv n x).l.length ≤ m.n + n ∧ wtL (tkS m cd fv n x).l ≤ 6 * szObs m.n m.os + 8 * szChs n x := by
  have h1 := mkObs_le 1 m.os m.n
  rw [mkObs_wt] at h1
  have h2 := mkChs_le 1 x n
  have h3 : (toL m.n m.os).length = m.n := toL_len _ _
  unfold tkS
  split
  · obtain ⟨b1, b2⟩ := tkTo_bound ⟨m.at_, m.seen, toL m.n m.os⟩ x n
    have b3 : (toL m.n m.os).length + n = m.n + n := by omega
    exact ⟨by show (tkTo _ x n).l.length ≤ _; have : (tkTo ⟨m.at_, m.seen, toL m.n m.os⟩ x n).l.length ≤ (toL m.n m.os).length + n := b1; omega, by
      have : wtL (tkTo ⟨m.at_, m.seen, toL m.n m.os⟩ x n).l + 1 ≤ wtL (toL m.n m.os) + mkChs 1 x n := b2
      show wtL (tkTo _ x n).l ≤ _
      omega⟩
  · exact ⟨by show (toL m.n m.os).length ≤ _; omega, by show wtL (toL m.n m.os) ≤ _; omega⟩
theorem wtL_mem {o : Ob} : ∀ {l : List Ob}, o ∈ l → 6 + o.hn ≤ wtL l
  | y :: r, h => by
    rcases List.mem_cons.1 h with rfl | h1
    · simp only [wtL]; omega
    · have := wtL_mem h1
      simp only [wtL]; omega
theorem toL_mem' {n : Nat} {y : Nat → Ob} {i : Nat} (h : i < n) : y i ∈ toL n y := by
  unfold toL
  exact List.mem_map.2 ⟨i, List.mem_range.2 h, rfl⟩
end Go.Proofs.Ytkecnaaacbckoaa
