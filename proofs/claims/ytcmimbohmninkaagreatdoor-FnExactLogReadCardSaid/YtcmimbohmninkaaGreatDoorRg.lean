import Derived.Test.YtcmimbohmninkaaGreatDoorB
import Derived.Orders
namespace Go.Proofs.YtcmimbohmninkaaGreatDoor
open Go.RowKit
theorem wpOp_mono {P : Program} {ops : Array Oper} {Q : Exit → Act → World → Prop} {i : Nat} {K K' : Act → World → Prop} {a : Act} {w : World} (h : ∀ a w, K a w → K' a w) (hh : wpOp P ops Q i K a w) : wpOp P ops Q i K' a w := by
  unfold wpOp at *
  split at hh
  · exact h _ _ hh
  · split at hh
    · next hw =>
      rw [if_pos hw]
      rcases hh with hh | hh
      · exact Or.inl (Oper.wp_mono h hh)
      · exact Or.inr hh
    · next hw =>
      rw [if_neg hw]
      exact h _ _ hh
/-- how many of the first n are not listed -/
def cnt (l : Array Bool) : Nat → Nat
  | 0 => 0
  | n + 1 => cnt l n + (if l.getD n true then 0 else 1)
theorem getD_set {l : Array Bool} {i j : Nat} (hi : i < l.size) (d : Bool) : (l.setIfInBounds i true).getD j d = if j = i then true else l.getD j d := by
  by_cases h : j = i
  · subst h
    simp [Array.getD, hi]
  · rw [if_neg h, Array.getD_eq_getD_getElem?, Array.getD_eq_getD_getElem?, Array.getElem?_setIfInBounds, if_neg (fun e => h e.symm)]
theorem cnt_set {l : Array Bool} {i : Nat} (hi : i < l.size) : ∀ n, cnt (l.setIfInBounds i true) n ≤ cnt l n
  | 0 => Nat.le_refl _
  | n + 1 => by
    unfold cnt
    have h := cnt_set hi n
    rw [getD_set hi]
    by_cases e : n = i
    · rw [if_pos e]; simp; split <;> omega
    · rw [if_neg e]; omega
theorem cnt_lt {l : Array Bool} {i : Nat} (hi : i < l.size) (h0 : l.getD i true = false) : ∀ n, i < n → cnt (l.setIfInBounds i true) n < cnt l n
  | 0, h => absurd h (Nat.not_lt_zero _)
  | n + 1, h => by
    unfold cnt
    rw [getD_set hi]
    by_cases e : n = i
    · subst e
      have := cnt_set hi n
      rw [if_pos rfl, h0]; simp; omega
    · have := cnt_lt hi h0 n (by omega)
      rw [if_neg e]; omega
theorem cnt_zero {l : Array Bool} : ∀ {n : Nat}, cnt l n = 0 → ∀ i, i < n → l.getD i true = true
  | 0, _, i, h => absurd h (Nat.not_lt_zero _)
  | n + 1, h0, i, h => by
    unfold cnt at h0
    by_cases e : i = n
    · subst e
      cases hg : l.getD i true with
      | true => rfl
      | false => rw [hg] at h0; simp at h0
    · exact cnt_zero (n := n) (by omega) i (by omega)
theorem cnt_le (l : Array Bool) : ∀ n, cnt l n ≤ n
  | 0 => Nat.le_refl _
  | n + 1 => by
    unfold cnt
    have := cnt_le l n
    split <;> omega
/-- A REGION THAT DRAWS ITS ORDER, BY AN INVARIANT OVER WHAT HAS RUN: one proof an operation, not one an order -/
theorem wpAny_inv {P : Program} {md : Region.Mode} {ops : Array Oper} {Q : Exit → Act → World → Prop} (Inv : Array Bool → Act → World → Prop)
    (hsz : ∀ l a w, Inv l a w → l.size = ops.size)
    (hdone : ∀ l a w, Inv l a w → Region.ready md ops l = [] → Q .normal a w)
    (hstep : ∀ l a w i, Inv l a w → i ∈ Region.ready md ops l → wpOp P ops Q i (Inv (l.setIfInBounds i true)) a w) :
    ∀ fuel l a w, Inv l a w → cnt l ops.size ≤ fuel → wpAny P md ops Q fuel l a w
  | 0, l, a, w, hI, hc => by
    have hr : Region.ready md ops l = [] := by
      rw [List.eq_nil_iff_forall_not_mem]
      intro i hi
      have h1 := (List.mem_filter.1 hi)
      have h2 : i < ops.size := by simpa using h1.1
      have h3 := h1.2
      rw [cnt_zero (by omega) i h2] at h3
      simp at h3
    exact ⟨hr, hdone l a w hI hr⟩
  | fuel + 1, l, a, w, hI, hc => by
    refine ⟨fun hr => hdone l a w hI hr, fun i hi => ?_⟩
    have h1 := (List.mem_filter.1 hi)
    have h2 : i < ops.size := by simpa using h1.1
    have h3 : l.getD i true = false := by
      have h4 := h1.2
      simp only [Bool.and_eq_true] at h4
      simpa using h4.1
    have hs := hsz l a w hI
    have h5 := cnt_lt (l := l) (i := i) (by omega) h3 ops.size h2
    exact wpOp_mono (fun a' w' hI' => wpAny_inv Inv hsz hdone hstep fuel _ a' w' hI' (by omega)) (hstep l a w i hI hi)
theorem wp_region_inv {P : Program} {id : Nat} {ops : Array Oper} {Q : Exit → Act → World → Prop} {a : Act} {w : World} (hm : P.follows .mixedOrders = true) (Inv : Array Bool → Act → World → Prop)
    (h0 : Inv (Array.replicate ops.size false) a w.drew)
    (hsz : ∀ l a w, Inv l a w → l.size = ops.size)
    (hdone : ∀ l a w, Inv l a w → Region.ready .any ops l = [] → Q .normal a w)
    (hstep : ∀ l a w i, Inv l a w → i ∈ Region.ready .any ops l → wpOp P ops Q i (Inv (l.setIfInBounds i true)) a w) : (Code.region id ops true).wp P Q a w :=
  wp_region_any hm (wpAny_inv Inv hsz hdone hstep _ _ _ _ h0 (cnt_le _ _))
theorem all_listed {ops : Array Oper} {l : Array Bool} (hord : ((List.range ops.size).all fun i => match ops[i]? with | some o => o.after.all (fun e => decide (e.on < i)) | none => true) = true) (hs : l.size = ops.size) (hr : Region.ready .any ops l = []) : ∀ i, i < ops.size → l.getD i false = true := by
  have conv : ∀ i, i < ops.size → l.getD i true = l.getD i false := fun i hi => by simp [Array.getD, hs, hi]
  intro i
  induction i using Nat.strongRecOn with
  | _ i ih =>
    intro hi
    cases hg : l.getD i false with
    | true => rfl
    | false =>
      have hm : i ∈ Region.ready .any ops l := by
        rw [mem_ready]
        refine ⟨(conv i hi).trans hg, ops[i], by simp [hi], fun e he _ => ?_⟩
        have h1 := List.all_eq_true.1 hord i (by simpa using hi)
        simp only [Array.getElem?_eq_getElem hi] at h1
        have h2 := (Array.all_eq_true_iff_forall_mem.1 h1) e he
        have h3 : e.on < i := by simpa using h2
        exact ih e.on h3 (by omega)
      rw [hr] at hm
      cases hm
theorem wpOp_of {P : Program} {ops : Array Oper} {Q : Exit → Act → World → Prop} {i : Nat} {K : Act → World → Prop} {a : Act} {w : World} {o : Oper} (ho : ops[i]? = some o) (hg : o.guard = none) (h : o.wp P a w K Q) : wpOp P ops Q i K a w := by
  unfold wpOp
  rw [ho]
  simp only [Region.wanted, hg, if_true]
  exact Or.inl h
def updT (t : Nat → Value) (i : Nat) (v : Value) : Nat → Value := fun j => bif j == i then v else t j
theorem updT_ne {t : Nat → Value} {i j : Nat} {v : Value} (h : ¬ j = i) : updT t i v j = t j := by
  have : (j == i) = false := by simpa using h
  simp [updT, this]
theorem updT_same {t : Nat → Value} {i : Nat} {v : Value} : updT t i v i = v := by simp [updT]
/-- operation i waits for operation j -/
def Waits (ops : Array Oper) (i j : Nat) : Prop := ∃ o, ops[i]? = some o ∧ ∃ e ∈ o.after, Region.binds .any e = true ∧ e.on = j
/-- a drawn region: values that hold whatever is added (G), and a last operation behind all others -/
def RG (n : Nat) (mk : (Nat → Value) → Array Value) (W : World) (G : Nat → Value → World → Prop) (Fin : Act → World → Prop) (l : Array Bool) (a : Act) (X : World) : Prop :=
  l.size = n + 1 ∧
    ((l.getD n false = true → (∀ i, i < n + 1 → l.getD i false = true) ∧ Fin a X) ∧ (l.getD n false = false → ∃ t : Nat → Value, a = ⟨mk t, []⟩ ∧ Below W.heap.size W X ∧ ∀ i, i < n → l.getD i false = true → G i (t i) X))
theorem regionH {P : Program} {id : Nat} {ops : Array Oper} {Q : Exit → Act → World → Prop} {a0 : Act} {W : World} (hm : P.follows .mixedOrders = true) (n : Nat)
    (mk : (Nat → Value) → Array Value) (t0 : Nat → Value) (G : Nat → Value → World → Prop) (Fin : Act → World → Prop)
    (hn : ops.size = n + 1) (hord : ((List.range ops.size).all fun i => match ops[i]? with | some o => o.after.all (fun e => decide (e.on < i)) | none => true) = true)
    (hlast : ((List.range n).all fun j => match ops[n]? with | some o => o.after.any (fun e => Region.binds .any e && e.on == j) | none => false) = true)
    (st : ∀ i v X Y, i < n → G i v X → Below X.heap.size X Y → G i v Y)
    (h0 : a0 = ⟨mk t0, []⟩)
    (sg : ∀ i, i < n → ∀ (t : Nat → Value) X K, Below W.heap.size W X → (∀ j, Waits ops i j → G j (t j) X) → (∀ v Y, G i v Y → Below X.heap.size X Y → K ⟨mk (updT t i v), []⟩ Y) → wpOp P ops Q i K ⟨mk t, []⟩ X)
    (sl : ∀ (t : Nat → Value) X K, Below W.heap.size W X → (∀ j, j < n → G j (t j) X) → (∀ a Y, Fin a Y → K a Y) → wpOp P ops Q n K ⟨mk t, []⟩ X)
    (hfin : ∀ a X, Fin a X → Q .normal a X) : (Code.region id ops true).wp P Q a0 W := by
  have hdep : ∀ i j, i < n + 1 → Waits ops i j → j < n := by
    rintro i j hi ⟨o, ho, e, he, _, rfl⟩
    have h1 := List.all_eq_true.1 hord i (List.mem_range.2 (by omega))
    rw [ho] at h1
    have h2 := Array.all_eq_true_iff_forall_mem.1 h1 e he
    have := of_decide_eq_true h2
    omega
  refine wp_region_inv hm (RG n mk W G Fin) ?_ ?_ ?_ ?_
  · have hz : ∀ i, (Array.replicate ops.size false).getD i false = false := fun i => by simp [Array.getD]
    refine ⟨by simp [hn], fun h => ?_, fun _ => ⟨t0, h0, (Below.refl _ _).drew, fun i _ h => ?_⟩⟩ <;> (rw [hz] at h; cases h)
  · rintro l a X ⟨hs, _⟩
    rw [hs, hn]
  · rintro l a X ⟨hs, h6, _⟩ hr
    have AL := all_listed hord (by rw [hs, hn]) hr
    exact hfin a X (h6 (AL n (by omega))).2
  · rintro l a X i ⟨hs, h6, hg⟩ hr
    obtain ⟨hu, o, ho, hall⟩ := mem_ready.1 hr
    have di : ∀ j, Waits ops i j → l.getD j false = true := by
      rintro j ⟨o', ho', e, he, hb, rfl⟩
      rw [ho] at ho'
      obtain rfl : o = o' := by simpa using ho'
      exact hall e he hb
    have hi7 : i < n + 1 := by
      rcases Nat.lt_or_ge i (n + 1) with h | h
      · exact h
      · rw [Array.getElem?_eq_none (by omega)] at ho
        cases ho
    have hui : l.getD i false = false := by
      have : l.getD i true = false := hu
      simpa [Array.getD, hs, hi7] using this
    have l6 : l.getD n false = false := by
      cases h : l.getD n false with
      | false => rfl
      | true => rw [(h6 h).1 i hi7] at hui; cases hui
    obtain ⟨t, rfl, hb, gg⟩ := hg l6
    have kp : ∀ j, ¬ j = i → (l.setIfInBounds i true).getD j false = l.getD j false := fun j hj => by rw [getD_set (by omega), if_neg hj]
    have ki : (l.setIfInBounds i true).getD i false = true := by rw [getD_set (by omega), if_pos rfl]
    have hs' : (l.setIfInBounds i true).size = n + 1 := by simp [hs]
    have ku : ∀ j, l.getD j false = true → (l.setIfInBounds i true).getD j false = true := fun j h => by
      by_cases e : j = i
      · subst e; exact ki
      · rw [kp j e]; exact h
    by_cases hin : i = n
    · subst hin
      have al : ∀ j, j < i → l.getD j false = true := fun j hj => by
        have h1 := List.all_eq_true.1 hlast j (List.mem_range.2 hj)
        rw [ho] at h1
        obtain ⟨k, hk, h2⟩ := Array.any_eq_true.1 h1
        simp only [Bool.and_eq_true, beq_iff_eq] at h2
        exact di j ⟨o, ho, o.after[k], Array.getElem_mem hk, h2.1, h2.2⟩
      clear hr hu ho h6 hg
      refine sl t X _ hb (fun j hj => gg j hj (al j hj)) (fun a Y hY => ⟨hs', fun _ => ⟨fun j hj => ?_, hY⟩, fun h => ?_⟩)
      · by_cases e : j = i
        · subst e; exact ki
        · exact ku j (al j (by omega))
      · rw [ki] at h; cases h
    · clear hr hu ho h6 hg
      have hno : (l.setIfInBounds i true).getD n false = false := by rw [kp n (fun e => hin e.symm)]; exact l6
      refine sg i (by omega) t X _ hb (fun j hj => gg j (hdep i j hi7 hj) (di j hj)) (fun v Y hv hY => ⟨hs', fun h => ?_, fun _ => ⟨updT t i v, rfl, hb.trans (hY.mono hb.size), fun j j1 h => ?_⟩⟩)
      · rw [hno] at h; cases h
      · by_cases e : j = i
        · subst e; rw [updT_same]; exact hv
        · rw [kp j e] at h; rw [updT_ne e]; exact st _ _ _ _ j1 (gg j j1 h) hY
/-- a drawn region whose last two operations come behind all others -/
def RK (n : Nat) (ops : Array Oper) (mk : (Nat → Value) → Array Value) (W : World) (G : Nat → Value → World → Prop) (Fin1 Fin : Act → World → Prop) (l : Array Bool) (a : Act) (X : World) : Prop :=
  l.size = n + 2 ∧ (∀ i j, Waits ops i j → l.getD i false = true → l.getD j false = true) ∧
    (l.getD (n + 1) false = true → (∀ i, i < n + 2 → l.getD i false = true) ∧ Fin a X) ∧
    (l.getD (n + 1) false = false → l.getD n false = true → (∀ i, i < n + 1 → l.getD i false = true) ∧ Fin1 a X) ∧
    (l.getD (n + 1) false = false → l.getD n false = false → ∃ t : Nat → Value, a = ⟨mk t, []⟩ ∧ Below W.heap.size W X ∧ ∀ i, i < n → l.getD i false = true → G i (t i) X)
theorem anc_all {ops : Array Oper} {n : Nat} (hanc : ((List.range n).all fun j => (List.range (n + 1)).any fun k => match ops[k]? with | some o => decide (j < k) && o.after.any (fun e => Region.binds .any e && e.on == j) | none => false) = true)
    {f : Nat → Prop} (hcl : ∀ i j, Waits ops i j → f i → f j) (hn : ∀ j, Waits ops n j → f j) : ∀ m j, n ≤ j + m → j < n → f j
  | 0, j, h, hj => by omega
  | m + 1, j, h, hj => by
    have h1 := List.all_eq_true.1 hanc j (List.mem_range.2 hj)
    obtain ⟨k, hk, h2⟩ := List.any_eq_true.1 h1
    have hk' := List.mem_range.1 hk
    cases ho : ops[k]? with
    | none => rw [ho] at h2; cases h2
    | some o =>
      rw [ho] at h2
      simp only [Bool.and_eq_true, decide_eq_true_eq] at h2
      obtain ⟨q, hq, h3⟩ := Array.any_eq_true.1 h2.2
      simp only [Bool.and_eq_true, beq_iff_eq] at h3
      have hw : Waits ops k j := ⟨o, ho, o.after[q], Array.getElem_mem hq, h3.1, h3.2⟩
      by_cases hkn : k = n
      · subst hkn; exact hn j hw
      · exact hcl k j hw (anc_all hanc hcl hn m k (by omega) (by omega))
theorem regionK {P : Program} {id : Nat} {ops : Array Oper} {Q : Exit → Act → World → Prop} {a0 : Act} {W : World} (hm : P.follows .mixedOrders = true) (n : Nat)
    (mk : (Nat → Value) → Array Value) (t0 : Nat → Value) (G : Nat → Value → World → Prop) (Fin1 Fin : Act → World → Prop)
    (hn : ops.size = n + 2) (hord : ((List.range ops.size).all fun i => match ops[i]? with | some o => o.after.all (fun e => decide (e.on < i)) | none => true) = true)
    (hlast : ((List.range (n + 1)).all fun j => match ops[n + 1]? with | some o => o.after.any (fun e => Region.binds .any e && e.on == j) | none => false) = true)
    (hanc : ((List.range n).all fun j => (List.range (n + 1)).any fun k => match ops[k]? with | some o => decide (j < k) && o.after.any (fun e => Region.binds .any e && e.on == j) | none => false) = true)
    (st : ∀ i v X Y, i < n → G i v X → Below X.heap.size X Y → G i v Y)
    (h0 : a0 = ⟨mk t0, []⟩)
    (sg : ∀ i, i < n → ∀ (t : Nat → Value) X K, Below W.heap.size W X → (∀ j, Waits ops i j → G j (t j) X) → (∀ v Y, G i v Y → Below X.heap.size X Y → K ⟨mk (updT t i v), []⟩ Y) → wpOp P ops Q i K ⟨mk t, []⟩ X)
    (s1 : ∀ (t : Nat → Value) X K, Below W.heap.size W X → (∀ j, j < n → G j (t j) X) → (∀ a Y, Fin1 a Y → K a Y) → wpOp P ops Q n K ⟨mk t, []⟩ X)
    (sl : ∀ a X K, Fin1 a X → (∀ a Y, Fin a Y → K a Y) → wpOp P ops Q (n + 1) K a X)
    (hfin : ∀ a X, Fin a X → Q .normal a X) : (Code.region id ops true).wp P Q a0 W := by
  have hdep : ∀ i j, i < n + 2 → Waits ops i j → j < i := by
    rintro i j hi ⟨o, ho, e, he, _, rfl⟩
    have h1 := List.all_eq_true.1 hord i (List.mem_range.2 (by omega))
    rw [ho] at h1
    exact of_decide_eq_true (Array.all_eq_true_iff_forall_mem.1 h1 e he)
  refine wp_region_inv hm (RK n ops mk W G Fin1 Fin) ?_ ?_ ?_ ?_
  · have hz : ∀ i, (Array.replicate ops.size false).getD i false = false := fun i => by simp [Array.getD]
    refine ⟨by simp [hn], fun i j _ h => ?_, fun h => ?_, fun _ h => ?_, fun _ _ => ⟨t0, h0, (Below.refl _ _).drew, fun i _ h => ?_⟩⟩ <;> (rw [hz] at h; cases h)
  · rintro l a X ⟨hs, _⟩
    rw [hs, hn]
  · rintro l a X ⟨hs, _, h6, _⟩ hr
    have AL := all_listed hord (by rw [hs, hn]) hr
    exact hfin a X (h6 (AL (n + 1) (by omega))).2
  · rintro l a X i ⟨hs, hcl, h6, h7, hg⟩ hr
    obtain ⟨hu, o, ho, hall⟩ := mem_ready.1 hr
    have di : ∀ j, Waits ops i j → l.getD j false = true := by
      rintro j ⟨o', ho', e, he, hb, rfl⟩
      rw [ho] at ho'
      obtain rfl : o = o' := by simpa using ho'
      exact hall e he hb
    have hi7 : i < n + 2 := by
      rcases Nat.lt_or_ge i (n + 2) with h | h
      · exact h
      · rw [Array.getElem?_eq_none (by omega)] at ho
        cases ho
    have hui : l.getD i false = false := by
      have : l.getD i true = false := hu
      simpa [Array.getD, hs, hi7] using this
    have l6 : l.getD (n + 1) false = false := by
      cases h : l.getD (n + 1) false with
      | false => rfl
      | true => rw [(h6 h).1 i hi7] at hui; cases hui
    have kp : ∀ j, ¬ j = i → (l.setIfInBounds i true).getD j false = l.getD j false := fun j hj => by rw [getD_set (by omega), if_neg hj]
    have ki : (l.setIfInBounds i true).getD i false = true := by rw [getD_set (by omega), if_pos rfl]
    have hs' : (l.setIfInBounds i true).size = n + 2 := by simp [hs]
    have ku : ∀ j, l.getD j false = true → (l.setIfInBounds i true).getD j false = true := fun j h => by
      by_cases e : j = i
      · subst e; exact ki
      · rw [kp j e]; exact h
    have hcl' : ∀ p j, Waits ops p j → (l.setIfInBounds i true).getD p false = true → (l.setIfInBounds i true).getD j false = true := fun p j hj h => by
      by_cases e : p = i
      · subst e; exact ku j (di j hj)
      · rw [kp p e] at h; exact ku j (hcl p j hj h)
    by_cases hin : i = n + 1
    · subst hin
      have al : ∀ j, j < n + 1 → l.getD j false = true := fun j hj => by
        have h1 := List.all_eq_true.1 hlast j (List.mem_range.2 hj)
        rw [ho] at h1
        obtain ⟨k, hk, h2⟩ := Array.any_eq_true.1 h1
        simp only [Bool.and_eq_true, beq_iff_eq] at h2
        exact di j ⟨o, ho, o.after[k], Array.getElem_mem hk, h2.1, h2.2⟩
      have hF := (h7 l6 (al n (by omega))).2
      clear hr hu ho h6 hg
      refine sl a X _ hF (fun a Y hY => ⟨hs', hcl', fun _ => ⟨fun j hj => ?_, hY⟩, fun h => ?_, fun h => ?_⟩)
      · by_cases e : j = n + 1
        · subst e; exact ki
        · exact ku j (al j (by omega))
      · rw [ki] at h; cases h
      · rw [ki] at h; cases h
    · have hno : (l.setIfInBounds i true).getD (n + 1) false = false := by rw [kp (n + 1) (fun e => hin e.symm)]; exact l6
      have l5 : l.getD n false = false := by
        cases h : l.getD n false with
        | false => rfl
        | true => rw [(h7 l6 h).1 i (by omega)] at hui; cases hui
      obtain ⟨t, rfl, hb, gg⟩ := hg l6 l5
      by_cases hin2 : i = n
      · subst hin2
        have al := fun j hj => anc_all (f := fun j => l.getD j false = true) hanc hcl di i j (by omega) hj
        clear hr hu ho h6 h7 hg
        refine s1 t X _ hb (fun j hj => gg j hj (al j hj)) (fun a Y hY => ⟨hs', hcl', fun h => ?_, fun _ _ => ⟨fun j hj => ?_, hY⟩, fun _ h => ?_⟩)
        · rw [hno] at h; cases h
        · by_cases e : j = i
          · subst e; exact ki
          · exact ku j (al j (by omega))
        · rw [ki] at h; cases h
      · clear hr hu ho h6 h7 hg
        have hno2 : (l.setIfInBounds i true).getD n false = false := by rw [kp n (fun e => hin2 e.symm)]; exact l5
        refine sg i (by omega) t X _ hb (fun j hj => gg j (by have := hdep i j hi7 hj; omega) (di j hj)) (fun v Y hv hY => ⟨hs', hcl', fun h => ?_, fun _ h => ?_, fun _ _ => ⟨updT t i v, rfl, hb.trans (hY.mono hb.size), fun j j1 h => ?_⟩⟩)
        · rw [hno] at h; cases h
        · rw [hno2] at h; cases h
        · by_cases e : j = i
          · subst e; rw [updT_same]; exact hv
          · rw [kp j e] at h; rw [updT_ne e]; exact st _ _ _ _ j1 (gg j j1 h) hY
/-- a drawn region whose last operation waits, by way of others, for all others -/
def RJ (n : Nat) (ops : Array Oper) (mk : (Nat → Value) → Array Value) (W : World) (G : Nat → Value → World → Prop) (Fin : Act → World → Prop) (l : Array Bool) (a : Act) (X : World) : Prop :=
  l.size = n + 1 ∧ (∀ i j, Waits ops i j → l.getD i false = true → l.getD j false = true) ∧
    (l.getD n false = true → (∀ i, i < n + 1 → l.getD i false = true) ∧ Fin a X) ∧
    (l.getD n false = false → ∃ t : Nat → Value, a = ⟨mk t, []⟩ ∧ Below W.heap.size W X ∧ ∀ i, i < n → l.getD i false = true → G i (t i) X)
theorem regionJ {P : Program} {id : Nat} {ops : Array Oper} {Q : Exit → Act → World → Prop} {a0 : Act} {W : World} (hm : P.follows .mixedOrders = true) (n : Nat)
    (mk : (Nat → Value) → Array Value) (t0 : Nat → Value) (G : Nat → Value → World → Prop) (Fin : Act → World → Prop)
    (hn : ops.size = n + 1) (hord : ((List.range ops.size).all fun i => match ops[i]? with | some o => o.after.all (fun e => decide (e.on < i)) | none => true) = true)
    (hanc : ((List.range n).all fun j => (List.range (n + 1)).any fun k => match ops[k]? with | some o => decide (j < k) && o.after.any (fun e => Region.binds .any e && e.on == j) | none => false) = true)
    (st : ∀ i v X Y, i < n → G i v X → Below X.heap.size X Y → G i v Y)
    (h0 : a0 = ⟨mk t0, []⟩)
    (sg : ∀ i, i < n → ∀ (t : Nat → Value) X K, Below W.heap.size W X → (∀ j, Waits ops i j → G j (t j) X) → (∀ v Y, G i v Y → Below X.heap.size X Y → K ⟨mk (updT t i v), []⟩ Y) → wpOp P ops Q i K ⟨mk t, []⟩ X)
    (sl : ∀ (t : Nat → Value) X K, Below W.heap.size W X → (∀ j, j < n → G j (t j) X) → (∀ a Y, Fin a Y → K a Y) → wpOp P ops Q n K ⟨mk t, []⟩ X)
    (hfin : ∀ a X, Fin a X → Q .normal a X) : (Code.region id ops true).wp P Q a0 W := by
  have hdep : ∀ i j, i < n + 1 → Waits ops i j → j < i := by
    rintro i j hi ⟨o, ho, e, he, _, rfl⟩
    have h1 := List.all_eq_true.1 hord i (List.mem_range.2 (by omega))
    rw [ho] at h1
    exact of_decide_eq_true (Array.all_eq_true_iff_forall_mem.1 h1 e he)
  refine wp_region_inv hm (RJ n ops mk W G Fin) ?_ ?_ ?_ ?_
  · have hz : ∀ i, (Array.replicate ops.size false).getD i false = false := fun i => by simp [Array.getD]
    refine ⟨by simp [hn], fun i j _ h => ?_, fun h => ?_, fun _ => ⟨t0, h0, (Below.refl _ _).drew, fun i _ h => ?_⟩⟩ <;> (rw [hz] at h; cases h)
  · rintro l a X ⟨hs, _⟩
    rw [hs, hn]
  · rintro l a X ⟨hs, _, h6, _⟩ hr
    have AL := all_listed hord (by rw [hs, hn]) hr
    exact hfin a X (h6 (AL n (by omega))).2
  · rintro l a X i ⟨hs, hcl, h6, hg⟩ hr
    obtain ⟨hu, o, ho, hall⟩ := mem_ready.1 hr
    have di : ∀ j, Waits ops i j → l.getD j false = true := by
      rintro j ⟨o', ho', e, he, hb, rfl⟩
      rw [ho] at ho'
      obtain rfl : o = o' := by simpa using ho'
      exact hall e he hb
    have hi7 : i < n + 1 := by
      rcases Nat.lt_or_ge i (n + 1) with h | h
      · exact h
      · rw [Array.getElem?_eq_none (by omega)] at ho
        cases ho
    have hui : l.getD i false = false := by
      have : l.getD i true = false := hu
      simpa [Array.getD, hs, hi7] using this
    have l6 : l.getD n false = false := by
      cases h : l.getD n false with
      | false => rfl
      | true => rw [(h6 h).1 i hi7] at hui; cases hui
    obtain ⟨t, rfl, hb, gg⟩ := hg l6
    have kp : ∀ j, ¬ j = i → (l.setIfInBounds i true).getD j false = l.getD j false := fun j hj => by rw [getD_set (by omega), if_neg hj]
    have ki : (l.setIfInBounds i true).getD i false = true := by rw [getD_set (by omega), if_pos rfl]
    have hs' : (l.setIfInBounds i true).size = n + 1 := by simp [hs]
    have ku : ∀ j, l.getD j false = true → (l.setIfInBounds i true).getD j false = true := fun j h => by
      by_cases e : j = i
      · subst e; exact ki
      · rw [kp j e]; exact h
    have hcl' : ∀ p j, Waits ops p j → (l.setIfInBounds i true).getD p false = true → (l.setIfInBounds i true).getD j false = true := fun p j hj h => by
      by_cases e : p = i
      · subst e; exact ku j (di j hj)
      · rw [kp p e] at h; exact ku j (hcl p j hj h)
    by_cases hin : i = n
    · subst hin
      have al := fun j hj => anc_all (f := fun j => l.getD j false = true) hanc hcl di i j (by omega) hj
      clear hr hu ho h6 hg
      refine sl t X _ hb (fun j hj => gg j hj (al j hj)) (fun a Y hY => ⟨hs', hcl', fun _ => ⟨fun j hj => ?_, hY⟩, fun h => ?_⟩)
      · by_cases e : j = i
        · subst e; exact ki
        · exact ku j (al j (by omega))
      · rw [ki] at h; cases h
    · clear hr hu ho h6 hg
      have hno : (l.setIfInBounds i true).getD n false = false := by rw [kp n (fun e => hin e.symm)]; exact l6
      refine sg i (by omega) t X _ hb (fun j hj => gg j (by have := hdep i j hi7 hj; omega) (di j hj)) (fun v Y hv hY => ⟨hs', hcl', fun h => ?_, fun _ => ⟨updT t i v, rfl, hb.trans (hY.mono hb.size), fun j j1 h => ?_⟩⟩)
      · rw [hno] at h; cases h
      · by_cases e : j = i
        · subst e; rw [updT_same]; exact hv
        · rw [kp j e] at h; rw [updT_ne e]; exact st _ _ _ _ j1 (gg j j1 h) hY
/-- a drawn region that holds what was handed in against a copy of it -/
def R5 (mk : (Nat → Value) → Array Value) (W : World) (v0 v1 : Value) (F2 : Value → World → Prop) (l : Array Bool) (a : Act) (X : World) : Prop :=
  ∃ t : Nat → Value, a = ⟨mk t, []⟩ ∧ l.size = 5 ∧ Below W.heap.size W X ∧ (l.getD 0 false = true → t 0 = v0) ∧ (l.getD 1 false = true → t 1 = v1) ∧ (l.getD 2 false = true → F2 (t 2) X) ∧ (l.getD 3 false = true → t 3 = .bool true) ∧ (l.getD 4 false = true → t 4 = .bool false)
theorem region5 {P : Program} {id : Nat} {ops : Array Oper} {Q : Exit → Act → World → Prop} {a0 : Act} {W : World} (hm : P.follows .mixedOrders = true)
    (mk : (Nat → Value) → Array Value) (v0 v1 : Value) (F2 : Value → World → Prop)
    (hn : ops.size = 5) (hord : ((List.range ops.size).all fun i => match ops[i]? with | some o => o.after.all (fun e => decide (e.on < i)) | none => true) = true)
    (hd : ∀ l i, i ∈ Region.ready .any ops l → (i = 2 → l.getD 1 false = true) ∧ (i = 3 → l.getD 0 false = true ∧ l.getD 2 false = true) ∧ (i = 4 → l.getD 3 false = true))
    (st2 : ∀ v X Y, F2 v X → Below X.heap.size X Y → F2 v Y)
    (h0 : a0 = ⟨mk (fun _ => undef), []⟩)
    (s0 : ∀ t X K, Below W.heap.size W X → K ⟨mk (updT t 0 v0), []⟩ X → wpOp P ops Q 0 K ⟨mk t, []⟩ X)
    (s1 : ∀ t X K, Below W.heap.size W X → K ⟨mk (updT t 1 v1), []⟩ X → wpOp P ops Q 1 K ⟨mk t, []⟩ X)
    (s2 : ∀ t X K, Below W.heap.size W X → t 1 = v1 → (∀ v Y, F2 v Y → Below X.heap.size X Y → K ⟨mk (updT t 2 v), []⟩ Y) → wpOp P ops Q 2 K ⟨mk t, []⟩ X)
    (s3 : ∀ t X K, Below W.heap.size W X → t 0 = v0 → F2 (t 2) X → (∀ Y, Below X.heap.size X Y → K ⟨mk (updT t 3 (.bool true)), []⟩ Y) → wpOp P ops Q 3 K ⟨mk t, []⟩ X)
    (s4 : ∀ t X K, t 3 = .bool true → K ⟨mk (updT t 4 (.bool false)), []⟩ X → wpOp P ops Q 4 K ⟨mk t, []⟩ X)
    (hfin : ∀ t X, t 4 = .bool false → Below W.heap.size W X → Q .normal ⟨mk t, []⟩ X) : (Code.region id ops true).wp P Q a0 W := by
  refine wp_region_inv hm (R5 mk W v0 v1 F2) ?_ ?_ ?_ ?_
  · refine ⟨fun _ => undef, h0, by simp [hn], (Below.refl _ _).drew, fun h => ?_, fun h => ?_, fun h => ?_, fun h => ?_, fun h => ?_⟩ <;> (rw [hn] at h; simp at h)
  · rintro l a X ⟨t, _, hs, _⟩
    rw [hs, hn]
  · rintro l a X ⟨t, rfl, hs, hb, _, _, _, _, g4⟩ hr
    have AL := all_listed hord (by rw [hs, hn]) hr
    exact hfin t X (g4 (AL 4 (by omega))) hb
  · rintro l a X i ⟨t, rfl, hs, hb, g0, g1, g2, g3, g4⟩ hr
    obtain ⟨d2, d3, d4⟩ := hd l i hr
    obtain ⟨hu, o, ho, _⟩ := mem_ready.1 hr
    have hi5 : i < 5 := by
      rcases Nat.lt_or_ge i 5 with h | h
      · exact h
      · rw [Array.getElem?_eq_none (by omega)] at ho
        cases ho
    have kp : ∀ j, ¬ j = i → (l.setIfInBounds i true).getD j false = l.getD j false := fun j hj => by rw [getD_set (by omega), if_neg hj]
    have hs' : (l.setIfInBounds i true).size = 5 := by simp [hs]
    clear hr hu ho
    rcases (show i = 0 ∨ i = 1 ∨ i = 2 ∨ i = 3 ∨ i = 4 by omega) with rfl | rfl | rfl | rfl | rfl
    · refine s0 t X _ hb ⟨updT t 0 v0, rfl, hs', hb, fun _ => rfl, fun h => ?_, fun h => ?_, fun h => ?_, fun h => ?_⟩
      · rw [kp 1 (by decide)] at h; exact g1 h
      · rw [kp 2 (by decide)] at h; exact g2 h
      · rw [kp 3 (by decide)] at h; exact g3 h
      · rw [kp 4 (by decide)] at h; exact g4 h
    · refine s1 t X _ hb ⟨updT t 1 v1, rfl, hs', hb, fun h => ?_, fun _ => rfl, fun h => ?_, fun h => ?_, fun h => ?_⟩
      · rw [kp 0 (by decide)] at h; exact g0 h
      · rw [kp 2 (by decide)] at h; exact g2 h
      · rw [kp 3 (by decide)] at h; exact g3 h
      · rw [kp 4 (by decide)] at h; exact g4 h
    · refine s2 t X _ hb (g1 (d2 rfl)) (fun v Y hv hY => ⟨updT t 2 v, rfl, hs', hb.trans (hY.mono hb.size), fun h => ?_, fun h => ?_, fun _ => hv, fun h => ?_, fun h => ?_⟩)
      · rw [kp 0 (by decide)] at h; exact g0 h
      · rw [kp 1 (by decide)] at h; exact g1 h
      · rw [kp 3 (by decide)] at h; exact g3 h
      · rw [kp 4 (by decide)] at h; exact g4 h
    · refine s3 t X _ hb (g0 (d3 rfl).1) (g2 (d3 rfl).2) (fun Y hY => ⟨updT t 3 _, rfl, hs', hb.trans (hY.mono hb.size), fun h => ?_, fun h => ?_, fun h => ?_, fun _ => rfl, fun h => ?_⟩)
      · rw [kp 0 (by decide)] at h; exact g0 h
      · rw [kp 1 (by decide)] at h; exact g1 h
      · rw [kp 2 (by decide)] at h; exact st2 _ _ _ (g2 h) hY
      · rw [kp 4 (by decide)] at h; exact g4 h
    · refine s4 t X _ (g3 (d4 rfl)) ⟨updT t 4 _, rfl, hs', hb, fun h => ?_, fun h => ?_, fun h => ?_, fun h => ?_, fun _ => rfl⟩
      · rw [kp 0 (by decide)] at h; exact g0 h
      · rw [kp 1 (by decide)] at h; exact g1 h
      · rw [kp 2 (by decide)] at h; exact g2 h
      · rw [kp 3 (by decide)] at h; exact g3 h
end Go.Proofs.YtcmimbohmninkaaGreatDoor
