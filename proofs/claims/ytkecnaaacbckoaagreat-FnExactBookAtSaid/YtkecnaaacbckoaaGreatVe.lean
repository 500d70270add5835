import Derived.Test.YtkecnaaacbckoaaGreatOb
import Derived.Test.YtkecnaaacbckoaaGreatQ
import Derived.Sort.Statements
import Derived.Test.YtkecnaaacbckoaaGreatVd
namespace Go.Proofs.YtkecnaaacbckoaaGreat
open Go.RowKit Go.Sort
theorem less_trans : ∀ a b c : List UInt8, Op.bytesLess a b = true → Op.bytesLess b c = true → Op.bytesLess a c = true
  | [], [], _, h, _ => by simp [Op.bytesLess] at h
  | _ :: _, [], _, h, _ => by simp [Op.bytesLess] at h
  | _, _ :: _, [], _, h => by simp [Op.bytesLess] at h
  | [], _ :: _, _ :: _, _, _ => by simp [Op.bytesLess]
  | x :: a, y :: b, z :: c, h1, h2 => by
    simp only [Op.bytesLess, Bool.or_eq_true, decide_eq_true_eq, Bool.and_eq_true, beq_iff_eq] at h1 h2 ⊢
    rcases h1 with h1 | ⟨rfl, h1⟩
    · rcases h2 with h2 | ⟨rfl, h2⟩
      · exact Or.inl (UInt8.lt_trans h1 h2)
      · exact Or.inl h1
    · rcases h2 with h2 | ⟨rfl, h2⟩
      · exact Or.inl h2
      · exact Or.inr ⟨rfl, less_trans a b c h1 h2⟩
theorem less_tot : ∀ a b : List UInt8, Op.bytesLess a b = false → Op.bytesLess b a = false → a = b
  | [], [], _, _ => rfl
  | [], _ :: _, h, _ => by simp [Op.bytesLess] at h
  | _ :: _, [], _, h => by simp [Op.bytesLess] at h
  | x :: a, y :: b, h1, h2 => by
    simp only [Op.bytesLess, Bool.or_eq_false_iff, decide_eq_false_iff_not, Bool.and_eq_false_iff, beq_eq_false_iff_ne] at h1 h2
    have e : x = y := UInt8.le_antisymm (UInt8.not_lt.1 h2.1) (UInt8.not_lt.1 h1.1)
    subst e
    have e2 := less_tot a b (by rcases h1.2 with h | h; exact absurd rfl h; exact h) (by rcases h2.2 with h | h; exact absurd rfl h; exact h)
    rw [e2]
theorem ltB_trans {a b c : ByteArray} (h1 : ltB a b = true) (h2 : ltB b c = true) : ltB a c = true := less_trans _ _ _ h1 h2
theorem ltB_tot {a b : ByteArray} (h1 : ltB a b = false) (h2 : ltB b a = false) : a.toList = b.toList := less_tot _ _ h1 h2
theorem befB_irr (x : Ob) : befB x x = false := by unfold befB; rw [if_pos rfl]; exact ltB_irr rfl
theorem befB_trans {x y z : Ob} (h1 : befB x y = true) (h2 : befB y z = true) : befB x z = true := by
  unfold befB at *
  by_cases e1 : x.kind.toList = y.kind.toList
  · rw [if_pos e1] at h1
    by_cases e2 : y.kind.toList = z.kind.toList
    · rw [if_pos e2] at h2
      rw [if_pos (e1.trans e2)]
      exact ltB_trans h1 h2
    · rw [if_neg e2] at h2
      rw [if_neg (fun e => e2 (e1.symm.trans e))]
      unfold ltB at h2 ⊢
      rw [e1]
      exact h2
  · rw [if_neg e1] at h1
    by_cases e2 : y.kind.toList = z.kind.toList
    · rw [if_pos e2] at h2
      rw [if_neg (fun e => e1 (e.trans e2.symm))]
      unfold ltB at h1 ⊢
      rw [← e2]
      exact h1
    · rw [if_neg e2] at h2
      have h3 := ltB_trans h1 h2
      rw [if_neg (fun e => by rw [ltB_irr e] at h3; cases h3)]
      exact h3
theorem befB_tot {x y : Ob} (h1 : befB x y = false) (h2 : befB y x = false) : x.kind.toList = y.kind.toList ∧ x.name.toList = y.name.toList := by
  unfold befB at *
  by_cases e1 : x.kind.toList = y.kind.toList
  · rw [if_pos e1] at h1
    rw [if_pos e1.symm] at h2
    exact ⟨e1, ltB_tot h1 h2⟩
  · rw [if_neg e1] at h1
    rw [if_neg (fun e => e1 e.symm)] at h2
    exact absurd (ltB_tot h1 h2) e1
theorem befB_key {x y z : Ob} (h : x.kind.toList = y.kind.toList ∧ x.name.toList = y.name.toList) : befB x z = befB y z := by
  unfold befB ltB
  rw [h.1, h.2]
/-- objects by kind and name: a strict weak order -/
theorem befB_swo : SWO befB where
  irrefl := befB_irr
  trans := fun _ _ _ => befB_trans
  ntrans := fun x y z h1 h2 => by
    cases h : befB x z with
    | false => rfl
    | true =>
      cases h3 : befB y x with
      | false =>
        rw [befB_key (befB_tot h1 h3), h2] at h
        cases h
      | true =>
        rw [befB_trans h3 h] at h2
        cases h2
/-- two rows that ascend and have the same elements are the same -/
theorem asc_eq {α : Type} {lt : α → α → Prop} (irr : ∀ a, ¬ lt a a) (tr : ∀ a b c, lt a b → lt b c → lt a c) : ∀ {l1 l2 : List α}, l1.Pairwise lt → l2.Pairwise lt → (∀ a, a ∈ l1 ↔ a ∈ l2) → l1 = l2
  | [], [], _, _, _ => rfl
  | [], b :: _, _, _, h => absurd ((h b).2 List.mem_cons_self) (by simp)
  | a :: _, [], _, _, h => absurd ((h a).1 List.mem_cons_self) (by simp)
  | a :: l1, b :: l2, h1, h2, h => by
    obtain ⟨p1, q1⟩ := List.pairwise_cons.1 h1
    obtain ⟨p2, q2⟩ := List.pairwise_cons.1 h2
    have e : a = b := by
      rcases List.mem_cons.1 ((h a).1 List.mem_cons_self) with e | e
      · exact e
      · rcases List.mem_cons.1 ((h b).2 List.mem_cons_self) with e' | e'
        · exact e'.symm
        · exact absurd (tr _ _ _ (p1 b e') (p2 a e)) (irr a)
    subst e
    have ht : ∀ x, x ∈ l1 ↔ x ∈ l2 := fun x => ⟨fun hx => by
      rcases List.mem_cons.1 ((h x).1 (List.mem_cons_of_mem _ hx)) with e | e
      · subst e; exact absurd (p1 x hx) (irr x)
      · exact e, fun hx => by
      rcases List.mem_cons.1 ((h x).2 (List.mem_cons_of_mem _ hx)) with e | e
      · subst e; exact absurd (p2 x hx) (irr x)
      · exact e⟩
    rw [asc_eq irr tr q1 q2 ht]
end Go.Proofs.YtkecnaaacbckoaaGreat
namespace Go.Proofs.YtkecnaaacbckoaaGreat
open Go.RowKit Go.Sort
/-- a list of objects, as a row -/
def toL (m : Nat) (y : Nat → Ob) : List Ob := (List.range m).map y
theorem toL_zero (y : Nat → Ob) : toL 0 y = [] := rfl
theorem toL_succ (m : Nat) (y : Nat → Ob) : toL (m + 1) y = toL m y ++ [y m] := by simp [toL, List.range_succ]
theorem toL_upd (m : Nat) (y : Nat → Ob) (z : Ob) : toL (m + 1) (updF y m z) = toL m y ++ [z] := by
  rw [toL_succ, updF_same]
  congr 1
  unfold toL
  apply List.map_congr_left
  intro i hi
  rw [updF_ne _ _ (by have := List.mem_range.1 hi; omega)]
theorem keyI_neg (x z : Ob) : keyI x z < 0 ↔ befB x z = true := by
  have h := keyI_bef x z
  cases hb : befB x z with
  | true => rw [hb] at h; simp at h; simp; omega
  | false => rw [hb] at h; simp at h; simp; omega
theorem keyI_nil (x z : Ob) : keyI x z = 0 ↔ (x.kind.toList = z.kind.toList ∧ x.name.toList = z.name.toList) := by
  unfold keyI
  by_cases h : x.kind.toList = z.kind.toList
  · rw [ltB_irr h]
    by_cases h2 : x.name.toList = z.name.toList
    · rw [ltB_irr h2]; simp [h, h2]
    · cases h3 : ltB x.name z.name <;> simp [h, h2]
  · cases h1 : ltB x.kind z.kind <;> simp [h]
theorem bef_of_key {x z : Ob} (h : keyI x z = 0) : befB x z = false ∧ befB z x = false := by
  have h2 := (keyI_nil x z).1 h
  exact ⟨by rw [befB_key h2]; exact befB_irr z, by rw [befB_key ⟨h2.1.symm, h2.2.symm⟩]; exact befB_irr x⟩
theorem bef_of_pos {x z : Ob} (h1 : ¬ keyI x z < 0) (h2 : ¬ keyI x z = 0) : befB x z = false ∧ befB z x = true := by
  have h3 : befB x z = false := by
    cases h : befB x z with
    | false => rfl
    | true => exact absurd ((keyI_neg x z).2 h) h1
  refine ⟨h3, ?_⟩
  cases h : befB z x with
  | true => rfl
  | false => exact absurd ((keyI_nil x z).2 (befB_tot h3 h)) h2
/-- ascending -/
def Asc (n : Nat) (x : Nat → Ob) : Prop := ∀ i j, i < j → j < n → befB (x i) (x j) = true
/-- what putting leaves: those below, the new one unless it is gone, those above -/
def putL (o : Ob) (gone : Bool) (l : List Ob) : List Ob := l.filter (fun y => befB y o) ++ ((if gone then [] else [o]) ++ l.filter (fun y => befB o y))
theorem putTo_gone (x : Nat → Ob) (o : Ob) : ∀ n, (putTo x o true n).done = true ∧ toL (putTo x o true n).m (putTo x o true n).y = (toL n x).filter (fun y => befB y o || befB o y)
  | 0 => ⟨rfl, rfl⟩
  | n + 1 => by
    obtain ⟨h1, h2⟩ := putTo_gone x o n
    show (putStep o (x n) (putTo x o true n)).done = true ∧ toL (putStep o (x n) (putTo x o true n)).m (putStep o (x n) (putTo x o true n)).y = _
    rw [toL_succ, List.filter_append, ← h2]
    unfold putStep
    rw [h1]
    by_cases hk : keyI (x n) o = 0
    · rw [if_pos rfl, if_pos hk]
      have hb := bef_of_key hk
      exact ⟨h1, by simp [hb]⟩
    · rw [if_pos rfl, if_neg hk]
      refine ⟨rfl, ?_⟩
      show toL ((putTo x o true n).m + 1) (updF _ _ _) = _
      rw [toL_upd]
      by_cases hn : keyI (x n) o < 0
      · simp [(keyI_neg _ _).1 hn]
      · simp [bef_of_pos hn hk]
theorem putTo_here {x : Nat → Ob} {o : Ob} : ∀ n, Asc n x →
    ((putTo x o false n).done = false ∧ toL (putTo x o false n).m (putTo x o false n).y = toL n x ∧ ∀ i, i < n → befB (x i) o = true) ∨
    ((putTo x o false n).done = true ∧ toL (putTo x o false n).m (putTo x o false n).y = putL o false (toL n x) ∧ ∃ i, i < n ∧ befB (x i) o = false)
  | 0, _ => Or.inl ⟨rfl, rfl, fun i hi => absurd hi (Nat.not_lt_zero _)⟩
  | n + 1, ha => by
    have ih := putTo_here (o := o) n (fun i j h1 h2 => ha i j h1 (by omega))
    show ((putStep o (x n) (putTo x o false n)).done = false ∧ toL (putStep o (x n) (putTo x o false n)).m (putStep o (x n) (putTo x o false n)).y = _ ∧ _) ∨ ((putStep o (x n) (putTo x o false n)).done = true ∧ toL (putStep o (x n) (putTo x o false n)).m (putStep o (x n) (putTo x o false n)).y = _ ∧ _)
    unfold putStep
    rcases ih with ⟨h1, h2, h3⟩ | ⟨h1, h2, i, hi, h3⟩
    · have f1 : (toL n x).filter (fun y => befB y o) = toL n x := List.filter_eq_self.2 (fun y hy => by
        obtain ⟨i, hi, rfl⟩ := List.mem_map.1 hy
        exact h3 i (List.mem_range.1 hi))
      have f2 : (toL n x).filter (fun y => befB o y) = [] := List.filter_eq_nil_iff.2 (fun y hy hb => by
        obtain ⟨i, hi, rfl⟩ := List.mem_map.1 hy
        have h4 := befB_trans (h3 i (List.mem_range.1 hi)) hb
        rw [befB_irr] at h4
        cases h4)
      rw [h1, if_neg (by decide)]
      by_cases hn : keyI (x n) o < 0
      · rw [if_pos hn]
        refine Or.inl ⟨rfl, ?_, fun i hi => ?_⟩
        · show toL ((putTo x o false n).m + 1) (updF _ _ _) = _
          rw [toL_upd, toL_succ, h2]
        · by_cases e : i = n
          · subst e; exact (keyI_neg _ _).1 hn
          · exact h3 i (by omega)
      · rw [if_neg hn]
        by_cases hk : keyI (x n) o = 0
        · rw [if_pos hk]
          have hb := bef_of_key hk
          refine Or.inr ⟨rfl, ?_, n, by omega, hb.1⟩
          show toL ((putTo x o false n).m + 1) (updF _ _ _) = _
          rw [toL_upd, h2]
          unfold putL
          rw [toL_succ, List.filter_append, List.filter_append, f1, f2]
          simp [hb]
        · rw [if_neg hk]
          have hb := bef_of_pos hn hk
          refine Or.inr ⟨rfl, ?_, n, by omega, hb.1⟩
          show toL ((putTo x o false n).m + 1 + 1) (updF _ _ _) = _
          rw [toL_upd, toL_upd, h2]
          unfold putL
          rw [toL_succ, List.filter_append, List.filter_append, f1, f2]
          simp [hb]
    · rw [h1, if_pos rfl]
      have hnb : befB (x n) o = false := by
        cases h : befB (x n) o with
        | false => rfl
        | true =>
          have h4 := befB_trans (ha i n hi (Nat.lt_succ_self _)) h
          rw [h3] at h4
          cases h4
      by_cases hk : keyI (x n) o = 0
      · rw [if_pos hk]
        have hb := bef_of_key hk
        refine Or.inr ⟨h1, ?_, i, by omega, h3⟩
        rw [h2]
        unfold putL
        rw [toL_succ, List.filter_append, List.filter_append]
        simp [hb]
      · rw [if_neg hk]
        have hb := bef_of_pos (fun h => by rw [(keyI_neg _ _).1 h] at hnb; cases hnb) hk
        refine Or.inr ⟨rfl, ?_, i, by omega, h3⟩
        show toL ((putTo x o false n).m + 1) (updF _ _ _) = _
        rw [toL_upd, h2]
        unfold putL
        rw [toL_succ, List.filter_append, List.filter_append]
        simp [hb]
theorem toL_split {x : Nat → Ob} {o : Ob} : ∀ n, Asc n x → (toL n x).filter (fun y => befB y o || befB o y) = (toL n x).filter (fun y => befB y o) ++ (toL n x).filter (fun y => befB o y)
  | 0, _ => rfl
  | n + 1, ha => by
    have ih := toL_split (o := o) n (fun i j h1 h2 => ha i j h1 (by omega))
    rw [toL_succ, List.filter_append, List.filter_append, List.filter_append, ih]
    cases h1 : befB (x n) o with
    | true =>
      have f2 : (toL n x).filter (fun y => befB o y) = [] := List.filter_eq_nil_iff.2 (fun y hy hb => by
        obtain ⟨i, hi, rfl⟩ := List.mem_map.1 hy
        have h4 := befB_trans (befB_trans hb (ha i n (List.mem_range.1 hi) (Nat.lt_succ_self _))) h1
        rw [befB_irr] at h4
        cases h4)
      have h5 : befB o (x n) = false := by
        cases h : befB o (x n) with
        | false => rfl
        | true => have h4 := befB_trans h1 h; rw [befB_irr] at h4; cases h4
      rw [f2]
      simp [h1, h5]
    | false => cases h2 : befB o (x n) <;> simp [h1, h2]
/-- putting, as a row -/
theorem putAll_list {x : Nat → Ob} {o : Ob} {gone : Bool} {n : Nat} (ha : Asc n x) : toL (putAll n x o gone).m (putAll n x o gone).y = putL o gone (toL n x) := by
  unfold putAll putEnd
  cases gone with
  | true =>
    obtain ⟨h1, h2⟩ := putTo_gone x o n
    rw [if_pos h1, h2, toL_split n ha]
    simp [putL]
  | false =>
    rcases putTo_here (o := o) n ha with ⟨h1, h2, h3⟩ | ⟨h1, h2, _⟩
    · rw [if_neg (by rw [h1]; decide)]
      show toL ((putTo x o false n).m + 1) (updF _ _ _) = _
      rw [toL_upd, h2]
      have f1 : (toL n x).filter (fun y => befB y o) = toL n x := List.filter_eq_self.2 (fun y hy => by
        obtain ⟨i, hi, rfl⟩ := List.mem_map.1 hy
        exact h3 i (List.mem_range.1 hi))
      have f2 : (toL n x).filter (fun y => befB o y) = [] := List.filter_eq_nil_iff.2 (fun y hy hb => by
        obtain ⟨i, hi, rfl⟩ := List.mem_map.1 hy
        have h4 := befB_trans (h3 i (List.mem_range.1 hi)) hb
        rw [befB_irr] at h4
        cases h4)
      unfold putL
      rw [f1, f2]
      simp
    · rw [if_pos h1, h2]
/-- two objects of the same kind and name -/
def sameK (a b : Ob) : Prop := befB a b = false ∧ befB b a = false
theorem putL_mem (o : Ob) (gone : Bool) (l : List Ob) (y : Ob) : y ∈ putL o gone l ↔ (y ∈ l ∧ ¬ sameK y o) ∨ (gone = false ∧ y = o) := by
  unfold putL sameK
  rw [List.mem_append, List.mem_append, List.mem_filter, List.mem_filter]
  cases gone <;> cases h1 : befB y o <;> cases h2 : befB o y <;> simp
  · exact Or.comm
  · exact ⟨fun h => by rcases h with h | h | h; exact Or.inl h; exact Or.inr h; exact Or.inl h, fun h => by rcases h with h | h; exact Or.inl h; exact Or.inr (Or.inl h)⟩
theorem putL_asc {o : Ob} {gone : Bool} {l : List Ob} (h : l.Pairwise (fun a b => befB a b = true)) : (putL o gone l).Pairwise (fun a b => befB a b = true) := by
  unfold putL
  rw [List.pairwise_append]
  refine ⟨h.filter _, ?_, fun a ha b hb => ?_⟩
  · rw [List.pairwise_append]
    refine ⟨by cases gone <;> simp, h.filter _, fun a ha b hb => ?_⟩
    cases gone with
    | true => simp at ha
    | false =>
      obtain rfl : a = o := by simpa using ha
      exact (List.mem_filter.1 hb).2
  · have h1 := (List.mem_filter.1 ha).2
    rcases List.mem_append.1 hb with hb | hb
    · cases gone with
      | true => simp at hb
      | false =>
        obtain rfl : b = o := by simpa using hb
        exact h1
    · exact befB_trans h1 (List.mem_filter.1 hb).2
theorem asc_pair {n : Nat} {x : Nat → Ob} : Asc n x ↔ (toL n x).Pairwise (fun a b => befB a b = true) := by
  unfold toL Asc
  rw [List.pairwise_map, List.pairwise_iff_getElem]
  constructor
  · intro h i j hi hj hij
    simp only [List.getElem_range]
    exact h i j hij (by simpa using hj)
  · intro h i j hij hj
    have h2 := h i j (by simp; omega) (by simpa using hj) hij
    simpa using h2
/-- the first loop, as a row -/
theorem objL_list {os : Nat → Ob} {fl : Int} : ∀ n, (toL (objL os fl n).1 (objL os fl n).2).Pairwise (fun a b => befB a b = true) ∧
    toL (objL os fl (n + 1)).1 (objL os fl (n + 1)).2 = if (os n).ver ≤ fl then putL (os n) false (toL (objL os fl n).1 (objL os fl n).2) else toL (objL os fl n).1 (objL os fl n).2
  | n => by
    have step : ∀ n, Asc (objL os fl n).1 (objL os fl n).2 → toL (objL os fl (n + 1)).1 (objL os fl (n + 1)).2 = if (os n).ver ≤ fl then putL (os n) false (toL (objL os fl n).1 (objL os fl n).2) else toL (objL os fl n).1 (objL os fl n).2 := fun n ha => by
      by_cases h : (os n).ver ≤ fl
      · rw [if_pos h, objL, if_pos h]
        exact putAll_list ha
      · rw [if_neg h, objL, if_neg h]
    have asc : ∀ n, (toL (objL os fl n).1 (objL os fl n).2).Pairwise (fun a b => befB a b = true) := fun n => by
      induction n with
      | zero => exact List.Pairwise.nil
      | succ n ih =>
        rw [step n (asc_pair.2 ih)]
        split
        · exact putL_asc ih
        · exact ih
    exact ⟨asc n, step n (asc_pair.2 (asc n))⟩
/-- the second loop, as a row -/
theorem hisL_list {s : Nat × (Nat → Ob)} {hs : Nat → Ch} {ver : Int} (h0 : (toL s.1 s.2).Pairwise (fun a b => befB a b = true)) : ∀ n, (toL (hisL s hs ver n).1 (hisL s hs ver n).2).Pairwise (fun a b => befB a b = true) ∧
    toL (hisL s hs ver (n + 1)).1 (hisL s hs ver (n + 1)).2 = if (hs n).ver ≤ ver then putL (hs n).ob (hs n).gone (toL (hisL s hs ver n).1 (hisL s hs ver n).2) else toL (hisL s hs ver n).1 (hisL s hs ver n).2
  | n => by
    have step : ∀ n, Asc (hisL s hs ver n).1 (hisL s hs ver n).2 → toL (hisL s hs ver (n + 1)).1 (hisL s hs ver (n + 1)).2 = if (hs n).ver ≤ ver then putL (hs n).ob (hs n).gone (toL (hisL s hs ver n).1 (hisL s hs ver n).2) else toL (hisL s hs ver n).1 (hisL s hs ver n).2 := fun n ha => by
      by_cases h : (hs n).ver ≤ ver
      · rw [if_pos h, hisL, if_pos h]
        exact putAll_list ha
      · rw [if_neg h, hisL, if_neg h]
    have asc : ∀ n, (toL (hisL s hs ver n).1 (hisL s hs ver n).2).Pairwise (fun a b => befB a b = true) := fun n => by
      induction n with
      | zero => exact h0
      | succ n ih =>
        rw [step n (asc_pair.2 ih)]
        split
        · exact putL_asc ih
        · exact ih
    exact ⟨asc n, step n (asc_pair.2 (asc n))⟩
theorem toL_mem {n : Nat} {x : Nat → Ob} {y : Ob} : y ∈ toL n x ↔ ∃ i, i < n ∧ y = x i := by
  unfold toL
  rw [List.mem_map]
  constructor
  · rintro ⟨i, hi, rfl⟩; exact ⟨i, List.mem_range.1 hi, rfl⟩
  · rintro ⟨i, hi, rfl⟩; exact ⟨i, List.mem_range.2 hi, rfl⟩
/-- which objects stand after the first loop, where no two of them are of the same kind and name -/
theorem objL_mem {os : Nat → Ob} {fl : Int} {y : Ob} : ∀ n, Asc n os → (y ∈ toL (objL os fl n).1 (objL os fl n).2 ↔ ∃ i, i < n ∧ (os i).ver ≤ fl ∧ y = os i)
  | 0, _ => by
    constructor
    · intro h; simp [objL, toL] at h
    · rintro ⟨i, hi, _⟩; exact absurd hi (Nat.not_lt_zero _)
  | n + 1, ha => by
    have ih := objL_mem (fl := fl) (y := y) n (fun i j h1 h2 => ha i j h1 (by omega))
    rw [(objL_list n).2]
    by_cases h : (os n).ver ≤ fl
    · rw [if_pos h, putL_mem, ih]
      constructor
      · rintro (⟨⟨i, hi, h1, h2⟩, _⟩ | ⟨_, h2⟩)
        · exact ⟨i, by omega, h1, h2⟩
        · exact ⟨n, by omega, h, h2⟩
      · rintro ⟨i, hi, h1, h2⟩
        by_cases e : i = n
        · subst e; exact Or.inr ⟨rfl, h2⟩
        · refine Or.inl ⟨⟨i, by omega, h1, h2⟩, fun hk => ?_⟩
          have h3 := ha i n (by omega) (by omega)
          rw [← h2] at h3
          rw [hk.1] at h3
          cases h3
    · rw [if_neg h, ih]
      constructor
      · rintro ⟨i, hi, h1, h2⟩; exact ⟨i, by omega, h1, h2⟩
      · rintro ⟨i, hi, h1, h2⟩
        by_cases e : i = n
        · subst e; exact absurd h1 h
        · exact ⟨i, by omega, h1, h2⟩
/-- which objects stand after the second loop: those of before that no change tells of, and what the last change of each left -/
theorem hisL_mem {s : Nat × (Nat → Ob)} {hs : Nat → Ch} {ver : Int} {y : Ob} (h0 : (toL s.1 s.2).Pairwise (fun a b => befB a b = true)) : ∀ n, (y ∈ toL (hisL s hs ver n).1 (hisL s hs ver n).2 ↔
    (y ∈ toL s.1 s.2 ∧ ∀ j, j < n → (hs j).ver ≤ ver → ¬ sameK y (hs j).ob) ∨ (∃ j, j < n ∧ (hs j).ver ≤ ver ∧ (hs j).gone = false ∧ y = (hs j).ob ∧ ∀ i, j < i → i < n → (hs i).ver ≤ ver → ¬ sameK y (hs i).ob))
  | 0 => by
    constructor
    · intro h; exact Or.inl ⟨h, fun j hj => absurd hj (Nat.not_lt_zero _)⟩
    · rintro (⟨h, _⟩ | ⟨j, hj, _⟩)
      · exact h
      · exact absurd hj (Nat.not_lt_zero _)
  | n + 1 => by
    have ih := hisL_mem (hs := hs) (ver := ver) (y := y) h0 n
    rw [(hisL_list h0 n).2]
    by_cases h : (hs n).ver ≤ ver
    · rw [if_pos h, putL_mem, ih]
      constructor
      · rintro (⟨⟨h1, h2⟩ | ⟨j, hj, h1, h2, h3, h4⟩, hk⟩ | ⟨h1, h2⟩)
        · refine Or.inl ⟨h1, fun j hj hv => ?_⟩
          by_cases e : j = n
          · subst e; exact hk
          · exact h2 j (by omega) hv
        · refine Or.inr ⟨j, by omega, h1, h2, h3, fun i hi1 hi2 hv => ?_⟩
          by_cases e : i = n
          · subst e; exact hk
          · exact h4 i hi1 (by omega) hv
        · exact Or.inr ⟨n, by omega, h, h1, h2, fun i hi1 hi2 => by omega⟩
      · rintro (⟨h1, h2⟩ | ⟨j, hj, h1, h2, h3, h4⟩)
        · exact Or.inl ⟨Or.inl ⟨h1, fun j hj hv => h2 j (by omega) hv⟩, h2 n (by omega) h⟩
        · by_cases e : j = n
          · subst e; exact Or.inr ⟨h2, h3⟩
          · exact Or.inl ⟨Or.inr ⟨j, by omega, h1, h2, h3, fun i hi1 hi2 hv => h4 i hi1 (by omega) hv⟩, h4 n (by omega) (by omega) h⟩
    · rw [if_neg h, ih]
      constructor
      · rintro (⟨h1, h2⟩ | ⟨j, hj, h1, h2, h3, h4⟩)
        · refine Or.inl ⟨h1, fun j hj hv => ?_⟩
          by_cases e : j = n
          · subst e; exact absurd hv h
          · exact h2 j (by omega) hv
        · refine Or.inr ⟨j, by omega, h1, h2, h3, fun i hi1 hi2 hv => ?_⟩
          by_cases e : i = n
          · subst e; exact absurd hv h
          · exact h4 i hi1 (by omega) hv
      · rintro (⟨h1, h2⟩ | ⟨j, hj, h1, h2, h3, h4⟩)
        · exact Or.inl ⟨h1, fun j hj hv => h2 j (by omega) hv⟩
        · by_cases e : j = n
          · subst e; exact absurd h1 h
          · exact Or.inr ⟨j, by omega, h1, h2, h3, fun i hi1 hi2 hv => h4 i hi1 (by omega) hv⟩
end Go.Proofs.YtkecnaaacbckoaaGreat
