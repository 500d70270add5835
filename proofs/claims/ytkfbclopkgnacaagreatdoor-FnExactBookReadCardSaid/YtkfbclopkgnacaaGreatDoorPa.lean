import Derived.Test.YtkfbclopkgnacaaGreatDoorOa
import Derived.Test.YtkfbclopkgnacaaGreatDoorM
import Derived.Test.YtkfbclopkgnacaaGreatDoorFb
namespace Go.Proofs.YtkfbclopkgnacaaGreatDoor
open Go.RowKit
def updT (t : Nat → Value) (i : Nat) (v : Value) : Nat → Value := fun j => bif j == i then v else t j
theorem updT_ne {t : Nat → Value} {i j : Nat} {v : Value} (h : ¬ j = i) : updT t i v j = t j := by
  have : (j == i) = false := by simpa using h
  simp [updT, this]
theorem updT_same {t : Nat → Value} {i : Nat} {v : Value} : updT t i v i = v := by simp [updT]
/-- operation i waits for operation j -/
def Waits (ops : Array Oper) (i j : Nat) : Prop := ∃ o, ops[i]? = some o ∧ ∃ e ∈ o.after, Region.binds .any e = true ∧ e.on = j
/-- a drawn region: values that hold whatever is added (G), and a last operation behind all others -/
def RG (n : Nat) (mk : (Nat → Value) → Array Value) (W : World) (G : Nat → Value → World → Prop) (Fin : Act → World → Prop) (l : Array Bool) (a : Act) (X : World) : Prop :=
  l.size = n + 1 ∧
    ((l.getD n false = true → (∀ i, i < n + 1 → l.getD i false = true) ∧ Fin a X) ∧ (l.getD n false = false → ∃ t : Nat → Value, a = ⟨mk t, []⟩ ∧ Below W.heap.size W X ∧ ∀ i, i < n → l.getD i false = true → G i (t i) X))
theorem regionH {P : Program} {id : Nat} {ops : Array Oper} {Q : Exit → Act → World → Prop} {a0 : Act} {W : World} (hm : P.follows .mixedOrders = true) (n : Nat)
    (mk : (Nat → Value) → Array Value) (t0 : Nat → Value) (G : Nat → Value → World → Prop) (Fin : Act → World → Prop)
    (hn : ops.size = n + 1) (hord : ((List.range ops.size).all fun i => match ops[i]? with | some o => o.after.all (fun e => decide (e.on < i)) | none => true) = true)
    (hlast : ((List.range n).all fun j => match ops[n]? with | some o => o.after.any (fun e => Region.binds .any e && e.on == j) | none => false) = true)
    (st : ∀ i v X Y, i < n → G i v X → Below X.heap.size X Y → G i v Y)
    (h0 : a0 = ⟨mk t0, []⟩)
    (sg : ∀ i, i < n → ∀ (t : Nat → Value) X K, Below W.heap.size W X → (∀ j, Waits ops i j → G j (t j) X) → (∀ v Y, G i v Y → Below X.heap.size X Y → K ⟨mk (updT t i v), []⟩ Y) → wpOp P ops Q i K ⟨mk t, []⟩ X)
    (sl : ∀ (t : Nat → Value) X K, Below W.heap.size W X → (∀ j, j < n → G j (t j) X) → (∀ a Y, Fin a Y → K a Y) → wpOp P ops Q n K ⟨mk t, []⟩ X)
    (hfin : ∀ a X, Fin a X → Q .normal a X) : (Code.region id ops true).wp P Q a0 W := by
  have hdep : ∀ i j, i < n + 1 → Waits ops i j → j < n := by
    rintro i j hi ⟨o, ho, e, he, _, rfl⟩
    have h1 := List.all_eq_true.1 hord i (List.mem_range.2 (by omega))
    rw [ho] at h1
    have h2 := Array.all_eq_true_iff_forall_mem.1 h1 e he
    have := of_decide_eq_true h2
    omega
  refine wp_region_inv hm (RG n mk W G Fin) ?_ ?_ ?_ ?_
  · have hz : ∀ i, (Array.replicate ops.size false).getD i false = false := fun i => by simp [Array.getD]
    refine ⟨by simp [hn], fun h => ?_, fun _ => ⟨t0, h0, (Below.refl _ _).drew, fun i _ h => ?_⟩⟩ <;> (rw [hz] at h; cases h)
  · rintro l a X ⟨hs, _⟩
    rw [hs, hn]
  · rintro l a X ⟨hs, h6, _⟩ hr
    have AL := all_listed hord (by rw [hs, hn]) hr
    exact hfin a X (h6 (AL n (by omega))).2
  · rintro l a X i ⟨hs, h6, hg⟩ hr
    obtain ⟨hu, o, ho, hall⟩ := mem_ready.1 hr
    have di : ∀ j, Waits ops i j → l.getD j false = true := by
      rintro j ⟨o', ho', e, he, hb, rfl⟩
      rw [ho] at ho'
      obtain rfl : o = o' := by simpa using ho'
      exact hall e he hb
    have hi7 : i < n + 1 := by
      rcases Nat.lt_or_ge i (n + 1) with h | h
      · exact h
      · rw [Array.getElem?_eq_none (by omega)] at ho
        cases ho
    have hui : l.getD i false = false := by
      have : l.getD i true = false := hu
      simpa [Array.getD, hs, hi7] using this
    have l6 : l.getD n false = false := by
      cases h : l.getD n false with
      | false => rfl
      | true => rw [(h6 h).1 i hi7] at hui; cases hui
    obtain ⟨t, rfl, hb, gg⟩ := hg l6
    have kp : ∀ j, ¬ j = i → (l.setIfInBounds i true).getD j false = l.getD j false := fun j hj => by rw [getD_set (by omega), if_neg hj]
    have ki : (l.setIfInBounds i true).getD i false = true := by rw [getD_set (by omega), if_pos rfl]
    have hs' : (l.setIfInBounds i true).size = n + 1 := by simp [hs]
    have ku : ∀ j, l.getD j false = true → (l.setIfInBounds i true).getD j false = true := fun j h => by
      by_cases e : j = i
      · subst e; exact ki
      · rw [kp j e]; exact h
    by_cases hin : i = n
    · subst hin
      have al : ∀ j, j < i → l.getD j false = true := fun j hj => by
        have h1 := List.all_eq_true.1 hlast j (List.mem_range.2 hj)
        rw [ho] at h1
        obtain ⟨k, hk, h2⟩ := Array.any_eq_true.1 h1
        simp only [Bool.and_eq_true, beq_iff_eq] at h2
        exact di j ⟨o, ho, o.after[k], Array.getElem_mem hk, h2.1, h2.2⟩
      clear hr hu ho h6 hg
      refine sl t X _ hb (fun j hj => gg j hj (al j hj)) (fun a Y hY => ⟨hs', fun _ => ⟨fun j hj => ?_, hY⟩, fun h => ?_⟩)
      · by_cases e : j = i
        · subst e; exact ki
        · exact ku j (al j (by omega))
      · rw [ki] at h; cases h
    · clear hr hu ho h6 hg
      have hno : (l.setIfInBounds i true).getD n false = false := by rw [kp n (fun e => hin e.symm)]; exact l6
      refine sg i (by omega) t X _ hb (fun j hj => gg j (hdep i j hi7 hj) (di j hj)) (fun v Y hv hY => ⟨hs', fun h => ?_, fun _ => ⟨updT t i v, rfl, hb.trans (hY.mono hb.size), fun j j1 h => ?_⟩⟩)
      · rw [hno] at h; cases h
      · by_cases e : j = i
        · subst e; rw [updT_same]; exact hv
        · rw [kp j e] at h; rw [updT_ne e]; exact st _ _ _ _ j1 (gg j j1 h) hY
/-- a drawn region whose last two operations come behind all others -/
def RK (n : Nat) (ops : Array Oper) (mk : (Nat → Value) → Array Value) (W : World) (G : Nat → Value → World → Prop) (Fin1 Fin : Act → World → Prop) (l : Array Bool) (a : Act) (X : World) : Prop :=
  l.size = n + 2 ∧ (∀ i j, Waits ops i j → l.getD i false = true → l.getD j false = true) ∧
    (l.getD (n + 1) false = true → (∀ i, i < n + 2 → l.getD i false = true) ∧ Fin a X) ∧
    (l.getD (n + 1) false = false → l.getD n false = true → (∀ i, i < n + 1 → l.getD i false = true) ∧ Fin1 a X) ∧
    (l.getD (n + 1) false = false → l.getD n false = false → ∃ t : Nat → Value, a = ⟨mk t, []⟩ ∧ Below W.heap.size W X ∧ ∀ i, i < n → l.getD i false = true → G i (t i) X)
theorem anc_all {ops : Array Oper} {n : Nat} (hanc : ((List.range n).all fun j => (List.range (n + 1)).any fun k => match ops[k]? with | some o => decide (j < k) && o.after.any (fun e => Region.binds .any e && e.on == j) | none => false) = true)
    {f : Nat → Prop} (hcl : ∀ i j, Waits ops i j → f i → f j) (hn : ∀ j, Waits ops n j → f j) : ∀ m j, n ≤ j + m → j < n → f j
  | 0, j, h, hj => by omega
  | m + 1, j, h, hj => by
    have h1 := List.all_eq_true.1 hanc j (List.mem_range.2 hj)
    obtain ⟨k, hk, h2⟩ := List.any_eq_true.1 h1
    have hk' := List.mem_range.1 hk
    cases ho : ops[k]? with
    | none => rw [ho] at h2; cases h2
    | some o =>
      rw [ho] at h2
      simp only [Bool.and_eq_true, decide_eq_true_eq] at h2
      obtain ⟨q, hq, h3⟩ := Array.any_eq_true.1 h2.2
      simp only [Bool.and_eq_true, beq_iff_eq] at h3
      have hw : Waits ops k j := ⟨o, ho, o.after[q], Array.getElem_mem hq, h3.1, h3.2⟩
      by_cases hkn : k = n
      · subst hkn; exact hn j hw
      · exact hcl k j hw (anc_all hanc hcl hn m k (by omega) (by omega))
theorem regionK {P : Program} {id : Nat} {ops : Array Oper} {Q : Exit → Act → World → Prop} {a0 : Act} {W : World} (hm : P.follows .mixedOrders = true) (n : Nat)
    (mk : (Nat → Value) → Array Value) (t0 : Nat → Value) (G : Nat → Value → World → Prop) (Fin1 Fin : Act → World → Prop)
    (hn : ops.size = n + 2) (hord : ((List.range ops.size).all fun i => match ops[i]? with | some o => o.after.all (fun e => decide (e.on < i)) | none => true) = true)
    (hlast : ((List.range (n + 1)).all fun j => match ops[n + 1]? with | some o => o.after.any (fun e => Region.binds .any e && e.on == j) | none => false) = true)
    (hanc : ((List.range n).all fun j => (List.range (n + 1)).any fun k => match ops[k]? with | some o => decide (j < k) && o.after.any (fun e => Region.binds .any e && e.on == j) | none => false) = true)
    (st : ∀ i v X Y, i < n → G i v X → Below X.heap.size X Y → G i v Y)
    (h0 : a0 = ⟨mk t0, []⟩)
    (sg : ∀ i, i < n → ∀ (t : Nat → Value) X K, Below W.heap.size W X → (∀ j, Waits ops i j → G j (t j) X) → (∀ v Y, G i v Y → Below X.heap.size X Y → K ⟨mk (updT t i v), []⟩ Y) → wpOp P ops Q i K ⟨mk t, []⟩ X)
    (s1 : ∀ (t : Nat → Value) X K, Below W.heap.size W X → (∀ j, j < n → G j (t j) X) → (∀ a Y, Fin1 a Y → K a Y) → wpOp P ops Q n K ⟨mk t, []⟩ X)
    (sl : ∀ a X K, Fin1 a X → (∀ a Y, Fin a Y → K a Y) → wpOp P ops Q (n + 1) K a X)
    (hfin : ∀ a X, Fin a X → Q .normal a X) : (Code.region id ops true).wp P Q a0 W := by
  have hdep : ∀ i j, i < n + 2 → Waits ops i j → j < i := by
    rintro i j hi ⟨o, ho, e, he, _, rfl⟩
    have h1 := List.all_eq_true.1 hord i (List.mem_range.2 (by omega))
    rw [ho] at h1
    exact of_decide_eq_true (Array.all_eq_true_iff_forall_mem.1 h1 e he)
  refine wp_region_inv hm (RK n ops mk W G Fin1 Fin) ?_ ?_ ?_ ?_
  · have hz : ∀ i, (Array.replicate ops.size false).getD i false = false := fun i => by simp [Array.getD]
    refine ⟨by simp [hn], fun i j _ h => ?_, fun h => ?_, fun _ h => ?_, fun _ _ => ⟨t0, h0, (Below.refl _ _).drew, fun i _ h => ?_⟩⟩ <;> (rw [hz] at h; cases h)
  · rintro l a X ⟨hs, _⟩
    rw [hs, hn]
  · rintro l a X ⟨hs, _, h6, _⟩ hr
    have AL := all_listed hord (by rw [hs, hn]) hr
    exact hfin a X (h6 (AL (n + 1) (by omega))).2
  · rintro l a X i ⟨hs, hcl, h6, h7, hg⟩ hr
    obtain ⟨hu, o, ho, hall⟩ := mem_ready.1 hr
    have di : ∀ j, Waits ops i j → l.getD j false = true := by
      rintro j ⟨o', ho', e, he, hb, rfl⟩
      rw [ho] at ho'
      obtain rfl : o = o' := by simpa using ho'
      exact hall e he hb
    have hi7 : i < n + 2 := by
      rcases Nat.lt_or_ge i (n + 2) with h | h
      · exact h
      · rw [Array.getElem?_eq_none (by omega)] at ho
        cases ho
    have hui : l.getD i false = false := by
      have : l.getD i true = false := hu
      simpa [Array.getD, hs, hi7] using this
    have l6 : l.getD (n + 1) false = false := by
      cases h : l.getD (n + 1) false with
      | false => rfl
      | true => rw [(h6 h).1 i hi7] at hui; cases hui
    have kp : ∀ j, ¬ j = i → (l.setIfInBounds i true).getD j false = l.getD j false := fun j hj => by rw [getD_set (by omega), if_neg hj]
    have ki : (l.setIfInBounds i true).getD i false = true := by rw [getD_set (by omega), if_pos rfl]
    have hs' : (l.setIfInBounds i true).size = n + 2 := by simp [hs]
    have ku : ∀ j, l.getD j false = true → (l.setIfInBounds i true).getD j false = true := fun j h => by
      by_cases e : j = i
      · subst e; exact ki
      · rw [kp j e]; exact h
    have hcl' : ∀ p j, Waits ops p j → (l.setIfInBounds i true).getD p false = true → (l.setIfInBounds i true).getD j false = true := fun p j hj h => by
      by_cases e : p = i
      · subst e; exact ku j (di j hj)
      · rw [kp p e] at h; exact ku j (hcl p j hj h)
    by_cases hin : i = n + 1
    · subst hin
      have al : ∀ j, j < n + 1 → l.getD j false = true := fun j hj => by
        have h1 := List.all_eq_true.1 hlast j (List.mem_range.2 hj)
        rw [ho] at h1
        obtain ⟨k, hk, h2⟩ := Array.any_eq_true.1 h1
        simp only [Bool.and_eq_true, beq_iff_eq] at h2
        exact di j ⟨o, ho, o.after[k], Array.getElem_mem hk, h2.1, h2.2⟩
      have hF := (h7 l6 (al n (by omega))).2
      clear hr hu ho h6 hg
      refine sl a X _ hF (fun a Y hY => ⟨hs', hcl', fun _ => ⟨fun j hj => ?_, hY⟩, fun h => ?_, fun h => ?_⟩)
      · by_cases e : j = n + 1
        · subst e; exact ki
        · exact ku j (al j (by omega))
      · rw [ki] at h; cases h
      · rw [ki] at h; cases h
    · have hno : (l.setIfInBounds i true).getD (n + 1) false = false := by rw [kp (n + 1) (fun e => hin e.symm)]; exact l6
      have l5 : l.getD n false = false := by
        cases h : l.getD n false with
        | false => rfl
        | true => rw [(h7 l6 h).1 i (by omega)] at hui; cases hui
      obtain ⟨t, rfl, hb, gg⟩ := hg l6 l5
      by_cases hin2 : i = n
      · subst hin2
        have al := fun j hj => anc_all (f := fun j => l.getD j false = true) hanc hcl di i j (by omega) hj
        clear hr hu ho h6 h7 hg
        refine s1 t X _ hb (fun j hj => gg j hj (al j hj)) (fun a Y hY => ⟨hs', hcl', fun h => ?_, fun _ _ => ⟨fun j hj => ?_, hY⟩, fun _ h => ?_⟩)
        · rw [hno] at h; cases h
        · by_cases e : j = i
          · subst e; exact ki
          · exact ku j (al j (by omega))
        · rw [ki] at h; cases h
      · clear hr hu ho h6 h7 hg
        have hno2 : (l.setIfInBounds i true).getD n false = false := by rw [kp n (fun e => hin2 e.symm)]; exact l5
        refine sg i (by omega) t X _ hb (fun j hj => gg j (by have := hdep i j hi7 hj; omega) (di j hj)) (fun v Y hv hY => ⟨hs', hcl', fun h => ?_, fun _ h => ?_, fun _ _ => ⟨updT t i v, rfl, hb.trans (hY.mono hb.size), fun j j1 h => ?_⟩⟩)
        · rw [hno] at h; cases h
        · rw [hno2] at h; cases h
        · by_cases e : j = i
          · subst e; rw [updT_same]; exact hv
          · rw [kp j e] at h; rw [updT_ne e]; exact st _ _ _ _ j1 (gg j j1 h) hY
/-- a drawn region whose last operation waits, by way of others, for all others -/
def RJ (n : Nat) (ops : Array Oper) (mk : (Nat → Value) → Array Value) (W : World) (G : Nat → Value → World → Prop) (Fin : Act → World → Prop) (l : Array Bool) (a : Act) (X : World) : Prop :=
  l.size = n + 1 ∧ (∀ i j, Waits ops i j → l.getD i false = true → l.getD j false = true) ∧
    (l.getD n false = true → (∀ i, i < n + 1 → l.getD i false = true) ∧ Fin a X) ∧
    (l.getD n false = false → ∃ t : Nat → Value, a = ⟨mk t, []⟩ ∧ Below W.heap.size W X ∧ ∀ i, i < n → l.getD i false = true → G i (t i) X)
theorem regionJ {P : Program} {id : Nat} {ops : Array Oper} {Q : Exit → Act → World → Prop} {a0 : Act} {W : World} (hm : P.follows .mixedOrders = true) (n : Nat)
    (mk : (Nat → Value) → Array Value) (t0 : Nat → Value) (G : Nat → Value → World → Prop) (Fin : Act → World → Prop)
    (hn : ops.size = n + 1) (hord : ((List.range ops.size).all fun i => match ops[i]? with | some o => o.after.all (fun e => decide (e.on < i)) | none => true) = true)
    (hanc : ((List.range n).all fun j => (List.range (n + 1)).any fun k => match ops[k]? with | some o => decide (j < k) && o.after.any (fun e => Region.binds .any e && e.on == j) | none => false) = true)
    (st : ∀ i v X Y, i < n → G i v X → Below X.heap.size X Y → G i v Y)
    (h0 : a0 = ⟨mk t0, []⟩)
    (sg : ∀ i, i < n → ∀ (t : Nat → Value) X K, Below W.heap.size W X → (∀ j, Waits ops i j → G j (t j) X) → (∀ v Y, G i v Y → Below X.heap.size X Y → K ⟨mk (updT t i v), []⟩ Y) → wpOp P ops Q i K ⟨mk t, []⟩ X)
    (sl : ∀ (t : Nat → Value) X K, Below W.heap.size W X → (∀ j, j < n → G j (t j) X) → (∀ a Y, Fin a Y → K a Y) → wpOp P ops Q n K ⟨mk t, []⟩ X)
    (hfin : ∀ a X, Fin a X → Q .normal a X) : (Code.region id ops true).wp P Q a0 W := by
  have hdep : ∀ i j, i < n + 1 → Waits ops i j → j < i := by
    rintro i j hi ⟨o, ho, e, he, _, rfl⟩
    have h1 := List.all_eq_true.1 hord i (List.mem_range.2 (by omega))
    rw [ho] at h1
    exact of_decide_eq_true (Array.all_eq_true_iff_forall_mem.1 h1 e he)
  refine wp_region_inv hm (RJ n ops mk W G Fin) ?_ ?_ ?_ ?_
  · have hz : ∀ i, (Array.replicate ops.size false).getD i false = false := fun i => by simp [Array.getD]
    refine ⟨by simp [hn], fun i j _ h => ?_, fun h => ?_, fun _ => ⟨t0, h0, (Below.refl _ _).drew, fun i _ h => ?_⟩⟩ <;> (rw [hz] at h; cases h)
  · rintro l a X ⟨hs, _⟩
    rw [hs, hn]
  · rintro l a X ⟨hs, _, h6, _⟩ hr
    have AL := all_listed hord (by rw [hs, hn]) hr
    exact hfin a X (h6 (AL n (by omega))).2
  · rintro l a X i ⟨hs, hcl, h6, hg⟩ hr
    obtain ⟨hu, o, ho, hall⟩ := mem_ready.1 hr
    have di : ∀ j, Waits ops i j → l.getD j false = true := by
      rintro j ⟨o', ho', e, he, hb, rfl⟩
      rw [ho] at ho'
      obtain rfl : o = o' := by simpa using ho'
      exact hall e he hb
    have hi7 : i < n + 1 := by
      rcases Nat.lt_or_ge i (n + 1) with h | h
      · exact h
      · rw [Array.getElem?_eq_none (by omega)] at ho
        cases ho
    have hui : l.getD i false = false := by
      have : l.getD i true = false := hu
      simpa [Array.getD, hs, hi7] using this
    have l6 : l.getD n false = false := by
      cases h : l.getD n false with
      | false => rfl
      | true => rw [(h6 h).1 i hi7] at hui; cases hui
    obtain ⟨t, rfl, hb, gg⟩ := hg l6
    have kp : ∀ j, ¬ j = i → (l.setIfInBounds i true).getD j false = l.getD j false := fun j hj => by rw [getD_set (by omega), if_neg hj]
    have ki : (l.setIfInBounds i true).getD i false = true := by rw [getD_set (by omega), if_pos rfl]
    have hs' : (l.setIfInBounds i true).size = n + 1 := by simp [hs]
    have ku : ∀ j, l.getD j false = true → (l.setIfInBounds i true).getD j false = true := fun j h => by
      by_cases e : j = i
      · subst e; exact ki
      · rw [kp j e]; exact h
    have hcl' : ∀ p j, Waits ops p j → (l.setIfInBounds i true).getD p false = true → (l.setIfInBounds i true).getD j false = true := fun p j hj h => by
      by_cases e : p = i
      · subst e; exact ku j (di j hj)
      · rw [kp p e] at h; exact ku j (hcl p j hj h)
    by_cases hin : i = n
    · subst hin
      have al := fun j hj => anc_all (f := fun j => l.getD j false = true) hanc hcl di i j (by omega) hj
      clear hr hu ho h6 hg
      refine sl t X _ hb (fun j hj => gg j hj (al j hj)) (fun a Y hY => ⟨hs', hcl', fun _ => ⟨fun j hj => ?_, hY⟩, fun h => ?_⟩)
      · by_cases e : j = i
        · subst e; exact ki
        · exact ku j (al j (by omega))
      · rw [ki] at h; cases h
    · clear hr hu ho h6 hg
      have hno : (l.setIfInBounds i true).getD n false = false := by rw [kp n (fun e => hin e.symm)]; exact l6
      refine sg i (by omega) t X _ hb (fun j hj => gg j (by have := hdep i j hi7 hj; omega) (di j hj)) (fun v Y hv hY => ⟨hs', hcl', fun h => ?_, fun _ => ⟨updT t i v, rfl, hb.trans (hY.mono hb.size), fun j j1 h => ?_⟩⟩)
      · rw [hno] at h; cases h
      · by_cases e : j = i
        · subst e; rw [updT_same]; exact hv
        · rw [kp j e] at h; rw [updT_ne e]; exact st _ _ _ _ j1 (gg j j1 h) hY
end Go.Proofs.YtkfbclopkgnacaaGreatDoor
namespace Go.Proofs.YtkfbclopkgnacaaGreatDoor
open Go.RowKit
/-- the seven cells of an object at (b, o) -/
structure ObCells (w : World) (b o : Nat) (x : Ob) (ad : Option Addr) (cap : Nat) : Prop where
  c0 : w.cell? ⟨b, o, none⟩ = some (.string x.kind)
  c1 : w.cell? ⟨b, o + 1, none⟩ = some (.string x.name)
  c2 : w.cell? ⟨b, o + 2, none⟩ = some (.int .i64 x.ver)
  c3 : w.cell? ⟨b, o + 3, none⟩ = some (.int .i64 x.born)
  c4 : w.cell? ⟨b, o + 4, none⟩ = some (.string x.text)
  c5 : w.cell? ⟨b, o + 5, none⟩ = some (.bool x.ending)
  c6 : w.cell? ⟨b, o + 6, none⟩ = some (.slice ad x.hn cap)
def ObjsIn (w : World) (lo hi : Nat) (ad : Option Addr) (n : Nat) (x : Nat → Ob) : Prop :=
  ∀ i, i < n → ∃ b off ah ch, ad = some ⟨b, off, none⟩ ∧ lo ≤ b ∧ b < hi ∧ ObCells w b (off + i * 7) (x i) ah ch ∧ StrsIn w lo hi ah (x i).hn (x i).hs
/-- what is read is of a size that a machine has -/
structure ObFit (x : Ob) : Prop where
  k : (x.kind.size : Int) ≤ 140737488355328
  n : (x.name.size : Int) ≤ 140737488355328
  t : (x.text.size : Int) ≤ 140737488355328
  h : (x.hn : Int) ≤ 8796093022208
  s : ∀ i, i < x.hn → ((x.hs i).size : Int) ≤ 140737488355328
  v : (Lit.int .i64 x.ver).wf = true
def szObs (n : Nat) (x : Nat → Ob) : Nat := n + sumTo (fun i => szOb (x i)) n
structure Ch where
  ver : Int
  gone : Bool
  ob : Ob
structure Ti where
  client : ByteArray
  num : Int
  print : ByteArray
  code : Int
  ver : Int
structure ChCells (w : World) (b o : Nat) (x : Ch) (ad : Option Addr) (cap : Nat) : Prop where
  c0 : w.cell? ⟨b, o, none⟩ = some (.int .i64 x.ver)
  c1 : w.cell? ⟨b, o + 1, none⟩ = some (.bool x.gone)
  c2 : w.cell? ⟨b, o + 2, none⟩ = some (.string x.ob.kind)
  c3 : w.cell? ⟨b, o + 3, none⟩ = some (.string x.ob.name)
  c4 : w.cell? ⟨b, o + 4, none⟩ = some (.int .i64 x.ob.ver)
  c5 : w.cell? ⟨b, o + 5, none⟩ = some (.int .i64 x.ob.born)
  c6 : w.cell? ⟨b, o + 6, none⟩ = some (.string x.ob.text)
  c7 : w.cell? ⟨b, o + 7, none⟩ = some (.bool x.ob.ending)
  c8 : w.cell? ⟨b, o + 8, none⟩ = some (.slice ad x.ob.hn cap)
structure TiCells (w : World) (b o : Nat) (x : Ti) : Prop where
  c0 : w.cell? ⟨b, o, none⟩ = some (.string x.client)
  c1 : w.cell? ⟨b, o + 1, none⟩ = some (.int .i64 x.num)
  c2 : w.cell? ⟨b, o + 2, none⟩ = some (.string x.print)
  c3 : w.cell? ⟨b, o + 3, none⟩ = some (.int .i64 x.code)
  c4 : w.cell? ⟨b, o + 4, none⟩ = some (.int .i64 x.ver)
def ChgsIn (w : World) (lo hi : Nat) (ad : Option Addr) (n : Nat) (x : Nat → Ch) : Prop :=
  ∀ i, i < n → ∃ b off ah ch, ad = some ⟨b, off, none⟩ ∧ lo ≤ b ∧ b < hi ∧ ChCells w b (off + i * 9) (x i) ah ch ∧ StrsIn w lo hi ah (x i).ob.hn (x i).ob.hs
def TicsIn (w : World) (lo hi : Nat) (ad : Option Addr) (n : Nat) (x : Nat → Ti) : Prop :=
  ∀ i, i < n → ∃ b off, ad = some ⟨b, off, none⟩ ∧ lo ≤ b ∧ b < hi ∧ TiCells w b (off + i * 5) (x i)
structure TiFit (x : Ti) : Prop where
  c : (x.client.size : Int) ≤ 140737488355328
  p : (x.print.size : Int) ≤ 140737488355328
def szCh (c : Ch) : Nat := szOb c.ob
def szTi (c : Ti) : Nat := c.client.size + c.print.size
def szChs (n : Nat) (x : Nat → Ch) : Nat := n + sumTo (fun i => szCh (x i)) n
def szTis (n : Nat) (x : Nat → Ti) : Nat := n + sumTo (fun i => szTi (x i)) n
end Go.Proofs.YtkfbclopkgnacaaGreatDoor
namespace Go.Proofs.YtkfbclopkgnacaaGreatDoor
open Go.RowKit
theorem bcell {W w1 : World} (hb : Below W.heap.size W w1) : (∀ b o, b < W.heap.size → w1.cell? ⟨b, o, none⟩ = W.cell? ⟨b, o, none⟩) ∧ (∀ b o, b < W.heap.size → w1.frozen? ⟨b, o, none⟩ = W.frozen? ⟨b, o, none⟩) :=
  ⟨fun b o h => hb.cell (p := ⟨b, o, none⟩) h, fun b o h => hb.frozen (p := ⟨b, o, none⟩) h⟩
structure Bk where
  now : Int
  floor : Int
  on : Nat
  os : Nat → Ob
  hn : Nat
  hs : Nat → Ch
  tn : Nat
  ts : Nat → Ti
structure BkFit (x : Bk) : Prop where
  o : (x.on : Int) ≤ 1099511627776
  h : (x.hn : Int) ≤ 1099511627776
  t : (x.tn : Int) ≤ 1099511627776
  os : ∀ i, i < x.on → ObFit (x.os i)
  hs : ∀ i, i < x.hn → ObFit (x.hs i).ob
  ts : ∀ i, i < x.tn → TiFit (x.ts i)
/-- as the arguments are read: no more than that -/
structure BkFit0 (x : Bk) : Prop where
  o : (x.on : Int) ≤ 8796093022208
  h : (x.hn : Int) ≤ 8796093022208
  t : (x.tn : Int) ≤ 8796093022208
  os : ∀ i, i < x.on → ObFit (x.os i)
  hs : ∀ i, i < x.hn → ObFit (x.hs i).ob
  ts : ∀ i, i < x.tn → TiFit (x.ts i)
def szBk (x : Bk) : Nat := szObs x.on x.os + szChs x.hn x.hs + szTis x.tn x.ts
structure BkIn (w : World) (lo hi : Nat) (x : Bk) (a1 a2 a3 : Option Addr) : Prop where
  o : ObjsIn w lo hi a1 x.on x.os
  h : ChgsIn w lo hi a2 x.hn x.hs
  t : TicsIn w lo hi a3 x.tn x.ts
theorem ObCells.below {w w' : World} {B b o : Nat} {x : Ob} {ad : Option Addr} {cap : Nat} (h : ObCells w b o x ad cap) (hb : Below B w w') (hB : b < B) : ObCells w' b o x ad cap :=
  have e : ∀ j, w'.cell? ⟨b, j, none⟩ = w.cell? ⟨b, j, none⟩ := fun j => hb.cell (p := ⟨b, j, none⟩) hB
  ⟨(e _).trans h.c0, (e _).trans h.c1, (e _).trans h.c2, (e _).trans h.c3, (e _).trans h.c4, (e _).trans h.c5, (e _).trans h.c6⟩
theorem ChCells.below {w w' : World} {B b o : Nat} {x : Ch} {ad : Option Addr} {cap : Nat} (h : ChCells w b o x ad cap) (hb : Below B w w') (hB : b < B) : ChCells w' b o x ad cap :=
  have e : ∀ j, w'.cell? ⟨b, j, none⟩ = w.cell? ⟨b, j, none⟩ := fun j => hb.cell (p := ⟨b, j, none⟩) hB
  ⟨(e _).trans h.c0, (e _).trans h.c1, (e _).trans h.c2, (e _).trans h.c3, (e _).trans h.c4, (e _).trans h.c5, (e _).trans h.c6, (e _).trans h.c7, (e _).trans h.c8⟩
theorem TiCells.below {w w' : World} {B b o : Nat} {x : Ti} (h : TiCells w b o x) (hb : Below B w w') (hB : b < B) : TiCells w' b o x :=
  have e : ∀ j, w'.cell? ⟨b, j, none⟩ = w.cell? ⟨b, j, none⟩ := fun j => hb.cell (p := ⟨b, j, none⟩) hB
  ⟨(e _).trans h.c0, (e _).trans h.c1, (e _).trans h.c2, (e _).trans h.c3, (e _).trans h.c4⟩
theorem ObjsIn.below {w w' : World} {B lo hi : Nat} {ad : Option Addr} {n : Nat} {x : Nat → Ob} (h : ObjsIn w lo hi ad n x) (hb : Below B w w') (hB : hi ≤ B) : ObjsIn w' lo hi ad n x := fun i hi' => by
  obtain ⟨b, off, ah, ch, e1, e2, e3, e4, e5⟩ := h i hi'
  exact ⟨b, off, ah, ch, e1, e2, e3, e4.below hb (by omega), e5.below hb hB⟩
theorem ChgsIn.below {w w' : World} {B lo hi : Nat} {ad : Option Addr} {n : Nat} {x : Nat → Ch} (h : ChgsIn w lo hi ad n x) (hb : Below B w w') (hB : hi ≤ B) : ChgsIn w' lo hi ad n x := fun i hi' => by
  obtain ⟨b, off, ah, ch, e1, e2, e3, e4, e5⟩ := h i hi'
  exact ⟨b, off, ah, ch, e1, e2, e3, e4.below hb (by omega), e5.below hb hB⟩
theorem TicsIn.below {w w' : World} {B lo hi : Nat} {ad : Option Addr} {n : Nat} {x : Nat → Ti} (h : TicsIn w lo hi ad n x) (hb : Below B w w') (hB : hi ≤ B) : TicsIn w' lo hi ad n x := fun i hi' => by
  obtain ⟨b, off, e1, e2, e3, e4⟩ := h i hi'
  exact ⟨b, off, e1, e2, e3, e4.below hb (by omega)⟩
theorem BkIn.below {w w' : World} {B lo hi : Nat} {x : Bk} {a1 a2 a3 : Option Addr} (h : BkIn w lo hi x a1 a2 a3) (hb : Below B w w') (hB : hi ≤ B) : BkIn w' lo hi x a1 a2 a3 := ⟨h.o.below hb hB, h.h.below hb hB, h.t.below hb hB⟩
theorem below_alloc (w : World) (o : Obj) : Below w.heap.size w (w.alloc o) := (Below.refl _ _).alloc (Nat.le_refl _) o
theorem szOut_le {l : Int} {s : Nat} (h : 0 ≤ l) : szOut l s ≤ l := by unfold szOut; split <;> omega
theorem box_cell {w w1 : World} {c : Array Value} {t : TypeId} (hb : Below (w.alloc (.cells c t)).heap.size (w.alloc (.cells c t)) w1) (i : Nat) : w1.cell? ⟨w.heap.size, i, none⟩ = c[i]? :=
  (hb.cell (p := ⟨w.heap.size, i, none⟩) (by simp)).trans (World.cell?_alloc_new w c t i)
theorem StrsOwn.fr {w w' : World} {lo hi lo2 hi2 : Nat} {ad : Option Addr} {n : Nat} {s : Nat → ByteArray} (h : StrsOwn w lo hi ad n s) (hb : Fr lo2 hi2 w w') (hw : hi ≤ w.heap.size) (ho : hi ≤ lo2 ∨ hi2 ≤ lo) : StrsOwn w' lo hi ad n s := fun i hi' => by
  obtain ⟨b, off, e1, e2, e3, e4, e5⟩ := h i hi'
  exact ⟨b, off, e1, e2, e3, (hb.cell (p := ⟨b, off + i, none⟩) (Nat.lt_of_lt_of_le e3 hw) (by show b < _ ∨ _ ≤ b; omega)).trans e4, (hb.frozen (p := ⟨b, off + i, none⟩) (Nat.lt_of_lt_of_le e3 hw) (by show b < _ ∨ _ ≤ b; omega)).trans e5⟩
theorem StrsOwn.mono {w : World} {lo hi lo2 hi2 : Nat} {ad : Option Addr} {n : Nat} {s : Nat → ByteArray} (h : StrsOwn w lo hi ad n s) (h1 : lo2 ≤ lo) (h2 : hi ≤ hi2) : StrsOwn w lo2 hi2 ad n s := fun i hi' => by
  obtain ⟨b, off, e1, e2, e3, e4, e5⟩ := h i hi'
  exact ⟨b, off, e1, by omega, by omega, e4, e5⟩
theorem StrsOwn.isIn {w : World} {lo hi : Nat} {ad : Option Addr} {n : Nat} {s : Nat → ByteArray} (h : StrsOwn w lo hi ad n s) : StrsIn w lo hi ad n s := fun i hi' => by
  obtain ⟨b, off, e1, e2, e3, e4, e5⟩ := h i hi'
  exact ⟨b, off, e1, e2, e3, e4⟩
theorem World.size_setCell (w : World) (a : Addr) (v : Value) : (w.setCell a v).heap.size = w.heap.size := by simp [World.setCell]
end Go.Proofs.YtkfbclopkgnacaaGreatDoor
namespace Go.Proofs.YtkfbclopkgnacaaGreatDoor
open Go.RowKit
def dS (n : Nat) : ByteArray := ⟨(Lib.decDigits n).toArray⟩
theorem dS_size {n : Nat} (h : (n : Int) ≤ 1000000) : ((dS n).size : Int) ≤ 1000001 := by
  have := dec_size n
  unfold dS
  omega
theorem decS_any (n : Nat) (h : (n : Int) ≤ 4611686018427387904) (w : World) : Calls Tryz.prog 26 #[.int .i64 n] w fun e w' => e = .returned (.string (dS n)) ∧ Below w.heap.size w w' := dec_any n h w
def quS (s : ByteArray) : ByteArray := ⟨(quL s).toArray⟩
theorem quoteS_any (s : ByteArray) (w : World) (hs : (s.size : Int) ≤ 1099511627776) : Calls Tryz.prog 30 #[.string s] w fun e w' => e = .returned (.string (quS s)) ∧ Below w.heap.size w w' := quote_any s w hs
theorem quS_size {s : ByteArray} (hs : (s.size : Int) ≤ 1000000) : ((quS s).size : Int) ≤ 3000002 := by
  have e : (quS s).size = (quL s).length := by simp [quS, ByteArray.size]
  have := qTo_len s s.size
  rw [e]
  unfold quL
  rw [List.length_append]
  simp
  omega
def objRegG (o : Ob) (B : Nat) (vv : Nat) (bb : Nat) (_s0 : ByteArray) (i : Nat) (v : Value) (_X : World) : Prop :=
  match i with
  | 0 => v = .pointer (some ⟨B, 0, none⟩)
  | 1 => v = .string o.kind
  | 2 => v = .string (o.kind ++ (⟨#[32]⟩ : ByteArray))
  | 3 => v = .pointer (some ⟨B, 1, none⟩)
  | 4 => v = .string o.name
  | 5 => v = .string (o.kind ++ (⟨#[32]⟩ : ByteArray) ++ o.name)
  | 6 => v = .string (o.kind ++ (⟨#[32]⟩ : ByteArray) ++ o.name ++ (⟨#[32]⟩ : ByteArray))
  | 7 => v = .pointer (some ⟨B, 2, none⟩)
  | 8 => v = .int .i64 vv
  | 9 => v = .string (dS vv)
  | 10 => v = .string (o.kind ++ (⟨#[32]⟩ : ByteArray) ++ o.name ++ (⟨#[32]⟩ : ByteArray) ++ dS vv)
  | 11 => v = .string (o.kind ++ (⟨#[32]⟩ : ByteArray) ++ o.name ++ (⟨#[32]⟩ : ByteArray) ++ dS vv ++ (⟨#[32]⟩ : ByteArray))
  | 12 => v = .pointer (some ⟨B, 3, none⟩)
  | 13 => v = .int .i64 bb
  | 14 => v = .string (dS bb)
  | 15 => v = .string (o.kind ++ (⟨#[32]⟩ : ByteArray) ++ o.name ++ (⟨#[32]⟩ : ByteArray) ++ dS vv ++ (⟨#[32]⟩ : ByteArray) ++ dS bb)
  | 16 => v = .string (o.kind ++ (⟨#[32]⟩ : ByteArray) ++ o.name ++ (⟨#[32]⟩ : ByteArray) ++ dS vv ++ (⟨#[32]⟩ : ByteArray) ++ dS bb ++ (⟨#[32]⟩ : ByteArray))
  | _ => True
set_option maxRecDepth 100000 in
set_option maxHeartbeats 4000000 in
theorem objReg (p0 p2 p3 p4 p22 p23 p24 p25 p26 p27 p28 p29 p30 p31 p32 p33 p34 p35 p36 p37 p38 p39 p40 p41 p42 p43 p44 p45 p46 p47 p48 p49 : Value) (t0 : Nat → Value) (o : Ob) (B : Nat) (vv : Nat) (bb : Nat) (s0 : ByteArray) (W : World) (hB : B < W.heap.size) (hc0 : W.cell? ⟨B, 0, none⟩ = some (.string o.kind)) (hc1 : W.cell? ⟨B, 1, none⟩ = some (.string o.name)) (hc2 : W.cell? ⟨B, 2, none⟩ = some (.int .i64 vv)) (hc3 : W.cell? ⟨B, 3, none⟩ = some (.int .i64 bb)) (hk : (o.kind.size : Int) ≤ 1099511627776) (hn : (o.name.size : Int) ≤ 1099511627776) (hv : (vv : Int) ≤ 1000000) (hbo : (bb : Int) ≤ 1000000) (zv : ((dS vv).size : Int) ≤ 1000001) (zb : ((dS bb).size : Int) ≤ 1000001) (es0 : s0 = o.kind ++ (⟨#[32]⟩ : ByteArray) ++ o.name ++ (⟨#[32]⟩ : ByteArray) ++ dS vv ++ (⟨#[32]⟩ : ByteArray) ++ dS bb ++ (⟨#[32]⟩ : ByteArray)) (Q : Exit → Act → World → Prop) (hQ : ∀ (t : Nat → Value) X, Below W.heap.size W X → Q .normal ⟨#[p0, .pointer (some ⟨B, 0, none⟩), p2, .string s0, p4, t 0, t 1, t 2, t 3, t 4, t 5, t 6, t 7, t 8, t 9, t 10, t 11, t 12, t 13, t 14, t 15, t 16, p22, p23, p24, p25, p26, p27, p28, p29, p30, p31, p32, p33, p34, p35, p36, p37, p38, p39, p40, p41, p42, p43, p44, p45, p46, p47, p48, p49], []⟩ X) :
    Code.wp Tryz.prog (Code.region 1 #[{ dst := some 5, op := Op.fieldAddr 38 (Operand.tmp 1) 0, type := 0, pos := "l9_book_form.go:6", after := #[], guard := none }, { dst := some 6, op := Op.load 9 (Operand.tmp 5), type := 9, pos := "l9_book_form.go:6", after := #[{ on := 0, ground := Ground.data }], guard := none }, { dst := some 7, op := Op.binOp BinOp.add 9 (Operand.tmp 6) (Operand.const (Value.string { data := #[32] })) 9, type := 9, pos := "l9_book_form.go:6", after := #[{ on := 1, ground := Ground.data }], guard := none }, { dst := some 8, op := Op.fieldAddr 38 (Operand.tmp 1) 1, type := 0, pos := "l9_book_form.go:6", after := #[], guard := none }, { dst := some 9, op := Op.load 9 (Operand.tmp 8), type := 9, pos := "l9_book_form.go:6", after := #[{ on := 3, ground := Ground.data }], guard := none }, { dst := some 10, op := Op.binOp BinOp.add 9 (Operand.tmp 7) (Operand.tmp 9) 9, type := 9, pos := "l9_book_form.go:6", after := #[{ on := 2, ground := Ground.data }, { on := 4, ground := Ground.data }], guard := none }, { dst := some 11, op := Op.binOp BinOp.add 9 (Operand.tmp 10) (Operand.const (Value.string { data := #[32] })) 9, type := 9, pos := "l9_book_form.go:6", after := #[{ on := 5, ground := Ground.data }], guard := none }, { dst := some 12, op := Op.fieldAddr 38 (Operand.tmp 1) 2, type := 0, pos := "l9_book_form.go:6", after := #[], guard := none }, { dst := some 13, op := Op.load 3 (Operand.tmp 12), type := 3, pos := "l9_book_form.go:6", after := #[{ on := 7, ground := Ground.data }], guard := none }, { dst := some 14, op := Op.call { callee := Callee.value (Operand.func 26), args := #[Operand.tmp 13], argTypes := #[3] }, type := 9, pos := "l9_book_form.go:6", after := #[{ on := 8, ground := Ground.data }], guard := none }, { dst := some 15, op := Op.binOp BinOp.add 9 (Operand.tmp 11) (Operand.tmp 14) 9, type := 9, pos := "l9_book_form.go:6", after := #[{ on := 6, ground := Ground.data }, { on := 9, ground := Ground.data }], guard := none }, { dst := some 16, op := Op.binOp BinOp.add 9 (Operand.tmp 15) (Operand.const (Value.string { data := #[32] })) 9, type := 9, pos := "l9_book_form.go:6", after := #[{ on := 10, ground := Ground.data }], guard := none }, { dst := some 17, op := Op.fieldAddr 38 (Operand.tmp 1) 3, type := 0, pos := "l9_book_form.go:6", after := #[], guard := none }, { dst := some 18, op := Op.load 3 (Operand.tmp 17), type := 3, pos := "l9_book_form.go:6", after := #[{ on := 12, ground := Ground.data }], guard := none }, { dst := some 19, op := Op.call { callee := Callee.value (Operand.func 26), args := #[Operand.tmp 18], argTypes := #[3] }, type := 9, pos := "l9_book_form.go:6", after := #[{ on := 13, ground := Ground.data }, { on := 9, ground := Ground.chain }], guard := none }, { dst := some 20, op := Op.binOp BinOp.add 9 (Operand.tmp 16) (Operand.tmp 19) 9, type := 9, pos := "l9_book_form.go:6", after := #[{ on := 11, ground := Ground.data }, { on := 14, ground := Ground.data }], guard := none }, { dst := some 21, op := Op.binOp BinOp.add 9 (Operand.tmp 20) (Operand.const (Value.string { data := #[32] })) 9, type := 9, pos := "l9_book_form.go:6", after := #[{ on := 15, ground := Ground.data }], guard := none }, { dst := some 3, op := Op.assign (Operand.tmp 21), type := 9, pos := "l9_book_form.go:6", after := #[{ on := 16, ground := Ground.data }, { on := 14, ground := Ground.chain }, { on := 0, ground := Ground.phase }, { on := 1, ground := Ground.phase }, { on := 2, ground := Ground.phase }, { on := 3, ground := Ground.phase }, { on := 4, ground := Ground.phase }, { on := 5, ground := Ground.phase }, { on := 6, ground := Ground.phase }, { on := 7, ground := Ground.phase }, { on := 8, ground := Ground.phase }, { on := 9, ground := Ground.phase }, { on := 10, ground := Ground.phase }, { on := 11, ground := Ground.phase }, { on := 12, ground := Ground.phase }, { on := 13, ground := Ground.phase }, { on := 14, ground := Ground.phase }, { on := 15, ground := Ground.phase }, { on := 16, ground := Ground.phase }], guard := none }] true) Q ⟨#[p0, .pointer (some ⟨B, 0, none⟩), p2, p3, p4, t0 0, t0 1, t0 2, t0 3, t0 4, t0 5, t0 6, t0 7, t0 8, t0 9, t0 10, t0 11, t0 12, t0 13, t0 14, t0 15, t0 16, p22, p23, p24, p25, p26, p27, p28, p29, p30, p31, p32, p33, p34, p35, p36, p37, p38, p39, p40, p41, p42, p43, p44, p45, p46, p47, p48, p49], []⟩ W := by
  refine regionH (by kernel_rfl) 17 (fun t : Nat → Value => #[p0, .pointer (some ⟨B, 0, none⟩), p2, p3, p4, t 0, t 1, t 2, t 3, t 4, t 5, t 6, t 7, t 8, t 9, t 10, t 11, t 12, t 13, t 14, t 15, t 16, p22, p23, p24, p25, p26, p27, p28, p29, p30, p31, p32, p33, p34, p35, p36, p37, p38, p39, p40, p41, p42, p43, p44, p45, p46, p47, p48, p49]) t0 (objRegG o B vv bb s0) (fun a X => ∃ (t : Nat → Value), a = ⟨#[p0, .pointer (some ⟨B, 0, none⟩), p2, .string s0, p4, t 0, t 1, t 2, t 3, t 4, t 5, t 6, t 7, t 8, t 9, t 10, t 11, t 12, t 13, t 14, t 15, t 16, p22, p23, p24, p25, p26, p27, p28, p29, p30, p31, p32, p33, p34, p35, p36, p37, p38, p39, p40, p41, p42, p43, p44, p45, p46, p47, p48, p49], []⟩ ∧ Below W.heap.size W X) (by kernel_rfl) (by kernel_rfl) (by kernel_rfl) ?_ rfl ?_ ?_ ?_
  · intro i v X Y hi h hb
    rcases (show i = 0 ∨ i = 1 ∨ i = 2 ∨ i = 3 ∨ i = 4 ∨ i = 5 ∨ i = 6 ∨ i = 7 ∨ i = 8 ∨ i = 9 ∨ i = 10 ∨ i = 11 ∨ i = 12 ∨ i = 13 ∨ i = 14 ∨ i = 15 ∨ i = 16 by omega) with rfl | rfl | rfl | rfl | rfl | rfl | rfl | rfl | rfl | rfl | rfl | rfl | rfl | rfl | rfl | rfl | rfl
    · exact h
    · exact h
    · exact h
    · exact h
    · exact h
    · exact h
    · exact h
    · exact h
    · exact h
    · exact h
    · exact h
    · exact h
    · exact h
    · exact h
    · exact h
    · exact h
    · exact h
  · intro i hi t X K hb hg hK
    rcases (show i = 0 ∨ i = 1 ∨ i = 2 ∨ i = 3 ∨ i = 4 ∨ i = 5 ∨ i = 6 ∨ i = 7 ∨ i = 8 ∨ i = 9 ∨ i = 10 ∨ i = 11 ∨ i = 12 ∨ i = 13 ∨ i = 14 ∨ i = 15 ∨ i = 16 by omega) with rfl | rfl | rfl | rfl | rfl | rfl | rfl | rfl | rfl | rfl | rfl | rfl | rfl | rfl | rfl | rfl | rfl
    · have h := hK (.pointer (some ⟨B, 0, none⟩)) X rfl (Below.refl _ _)
      refine wpOp_of rfl rfl ?_
      clear hK hg
      go_simp
      simpa [updT] using h
    · have e0 : t 0 = .pointer (some ⟨B, 0, none⟩) := hg 0 ⟨_, rfl, ⟨0, .data⟩, by simp, rfl, rfl⟩
      have q := (hb.cell (p := ⟨B, 0, none⟩) hB).trans hc0
      have h := hK (.string o.kind) X rfl (Below.refl _ _)
      refine wpOp_of rfl rfl ?_
      clear hK hg
      go_simp
      simpa [updT, e0] using h
    · have e1 : t 1 = .string o.kind := hg 1 ⟨_, rfl, ⟨1, .data⟩, by simp, rfl, rfl⟩
      have h := hK (.string (o.kind ++ (⟨#[32]⟩ : ByteArray))) X rfl (Below.refl _ _)
      refine wpOp_of rfl rfl ?_
      clear hK hg
      go_simp
      rw [if_neg (by omega), Oper.upon_value]
      go_simp
      simpa [updT, e1] using h
    · have h := hK (.pointer (some ⟨B, 1, none⟩)) X rfl (Below.refl _ _)
      refine wpOp_of rfl rfl ?_
      clear hK hg
      go_simp
      simpa [updT] using h
    · have e3 : t 3 = .pointer (some ⟨B, 1, none⟩) := hg 3 ⟨_, rfl, ⟨3, .data⟩, by simp, rfl, rfl⟩
      have q := (hb.cell (p := ⟨B, 1, none⟩) hB).trans hc1
      have h := hK (.string o.name) X rfl (Below.refl _ _)
      refine wpOp_of rfl rfl ?_
      clear hK hg
      go_simp
      simpa [updT, e3] using h
    · have e2 : t 2 = .string (o.kind ++ (⟨#[32]⟩ : ByteArray)) := hg 2 ⟨_, rfl, ⟨2, .data⟩, by simp, rfl, rfl⟩
      have e4 : t 4 = .string o.name := hg 4 ⟨_, rfl, ⟨4, .data⟩, by simp, rfl, rfl⟩
      have h := hK (.string (o.kind ++ (⟨#[32]⟩ : ByteArray) ++ o.name)) X rfl (Below.refl _ _)
      refine wpOp_of rfl rfl ?_
      clear hK hg
      go_simp
      rw [if_neg (by omega), Oper.upon_value]
      go_simp
      simpa [updT, e2, e4] using h
    · have e5 : t 5 = .string (o.kind ++ (⟨#[32]⟩ : ByteArray) ++ o.name) := hg 5 ⟨_, rfl, ⟨5, .data⟩, by simp, rfl, rfl⟩
      have h := hK (.string (o.kind ++ (⟨#[32]⟩ : ByteArray) ++ o.name ++ (⟨#[32]⟩ : ByteArray))) X rfl (Below.refl _ _)
      refine wpOp_of rfl rfl ?_
      clear hK hg
      go_simp
      rw [if_neg (by omega), Oper.upon_value]
      go_simp
      simpa [updT, e5] using h
    · have h := hK (.pointer (some ⟨B, 2, none⟩)) X rfl (Below.refl _ _)
      refine wpOp_of rfl rfl ?_
      clear hK hg
      go_simp
      simpa [updT] using h
    · have e7 : t 7 = .pointer (some ⟨B, 2, none⟩) := hg 7 ⟨_, rfl, ⟨7, .data⟩, by simp, rfl, rfl⟩
      have q := (hb.cell (p := ⟨B, 2, none⟩) hB).trans hc2
      have h := hK (.int .i64 vv) X rfl (Below.refl _ _)
      refine wpOp_of rfl rfl ?_
      clear hK hg
      go_simp
      simpa [updT, e7] using h
    · have e8 : t 8 = .int .i64 vv := hg 8 ⟨_, rfl, ⟨8, .data⟩, by simp, rfl, rfl⟩
      refine wpOp_of rfl rfl ?_
      have HK := hid hK
      clear hK hg
      go_simp
      go_at_call 26
      refine (decS_any vv (by omega) X).mono ?_
      rintro r Y ⟨rfl, hbY⟩
      have h := HK.out (.string (dS vv)) Y rfl hbY
      simpa [updT, e8] using h
    · have e6 : t 6 = .string (o.kind ++ (⟨#[32]⟩ : ByteArray) ++ o.name ++ (⟨#[32]⟩ : ByteArray)) := hg 6 ⟨_, rfl, ⟨6, .data⟩, by simp, rfl, rfl⟩
      have e9 : t 9 = .string (dS vv) := hg 9 ⟨_, rfl, ⟨9, .data⟩, by simp, rfl, rfl⟩
      have h := hK (.string (o.kind ++ (⟨#[32]⟩ : ByteArray) ++ o.name ++ (⟨#[32]⟩ : ByteArray) ++ dS vv)) X rfl (Below.refl _ _)
      refine wpOp_of rfl rfl ?_
      clear hK hg
      go_simp
      rw [if_neg (by omega), Oper.upon_value]
      go_simp
      simpa [updT, e6, e9] using h
    · have e10 : t 10 = .string (o.kind ++ (⟨#[32]⟩ : ByteArray) ++ o.name ++ (⟨#[32]⟩ : ByteArray) ++ dS vv) := hg 10 ⟨_, rfl, ⟨10, .data⟩, by simp, rfl, rfl⟩
      have h := hK (.string (o.kind ++ (⟨#[32]⟩ : ByteArray) ++ o.name ++ (⟨#[32]⟩ : ByteArray) ++ dS vv ++ (⟨#[32]⟩ : ByteArray))) X rfl (Below.refl _ _)
      refine wpOp_of rfl rfl ?_
      clear hK hg
      go_simp
      rw [if_neg (by omega), Oper.upon_value]
      go_simp
      simpa [updT, e10] using h
    · have h := hK (.pointer (some ⟨B, 3, none⟩)) X rfl (Below.refl _ _)
      refine wpOp_of rfl rfl ?_
      clear hK hg
      go_simp
      simpa [updT] using h
    · have e12 : t 12 = .pointer (some ⟨B, 3, none⟩) := hg 12 ⟨_, rfl, ⟨12, .data⟩, by simp, rfl, rfl⟩
      have q := (hb.cell (p := ⟨B, 3, none⟩) hB).trans hc3
      have h := hK (.int .i64 bb) X rfl (Below.refl _ _)
      refine wpOp_of rfl rfl ?_
      clear hK hg
      go_simp
      simpa [updT, e12] using h
    · have e13 : t 13 = .int .i64 bb := hg 13 ⟨_, rfl, ⟨13, .data⟩, by simp, rfl, rfl⟩
      refine wpOp_of rfl rfl ?_
      have HK := hid hK
      clear hK hg
      go_simp
      go_at_call 26
      refine (decS_any bb (by omega) X).mono ?_
      rintro r Y ⟨rfl, hbY⟩
      have h := HK.out (.string (dS bb)) Y rfl hbY
      simpa [updT, e13] using h
    · have e11 : t 11 = .string (o.kind ++ (⟨#[32]⟩ : ByteArray) ++ o.name ++ (⟨#[32]⟩ : ByteArray) ++ dS vv ++ (⟨#[32]⟩ : ByteArray)) := hg 11 ⟨_, rfl, ⟨11, .data⟩, by simp, rfl, rfl⟩
      have e14 : t 14 = .string (dS bb) := hg 14 ⟨_, rfl, ⟨14, .data⟩, by simp, rfl, rfl⟩
      have h := hK (.string (o.kind ++ (⟨#[32]⟩ : ByteArray) ++ o.name ++ (⟨#[32]⟩ : ByteArray) ++ dS vv ++ (⟨#[32]⟩ : ByteArray) ++ dS bb)) X rfl (Below.refl _ _)
      refine wpOp_of rfl rfl ?_
      clear hK hg
      go_simp
      rw [if_neg (by omega), Oper.upon_value]
      go_simp
      simpa [updT, e11, e14] using h
    · have e15 : t 15 = .string (o.kind ++ (⟨#[32]⟩ : ByteArray) ++ o.name ++ (⟨#[32]⟩ : ByteArray) ++ dS vv ++ (⟨#[32]⟩ : ByteArray) ++ dS bb) := hg 15 ⟨_, rfl, ⟨15, .data⟩, by simp, rfl, rfl⟩
      have h := hK (.string (o.kind ++ (⟨#[32]⟩ : ByteArray) ++ o.name ++ (⟨#[32]⟩ : ByteArray) ++ dS vv ++ (⟨#[32]⟩ : ByteArray) ++ dS bb ++ (⟨#[32]⟩ : ByteArray))) X rfl (Below.refl _ _)
      refine wpOp_of rfl rfl ?_
      clear hK hg
      go_simp
      rw [if_neg (by omega), Oper.upon_value]
      go_simp
      simpa [updT, e15] using h
  · intro t X K hb hg hK
    have e16 : t 16 = .string (o.kind ++ (⟨#[32]⟩ : ByteArray) ++ o.name ++ (⟨#[32]⟩ : ByteArray) ++ dS vv ++ (⟨#[32]⟩ : ByteArray) ++ dS bb ++ (⟨#[32]⟩ : ByteArray)) := hg 16 (by omega)
    have h := hK ⟨#[p0, .pointer (some ⟨B, 0, none⟩), p2, .string s0, p4, t 0, t 1, t 2, t 3, t 4, t 5, t 6, t 7, t 8, t 9, t 10, t 11, t 12, t 13, t 14, t 15, t 16, p22, p23, p24, p25, p26, p27, p28, p29, p30, p31, p32, p33, p34, p35, p36, p37, p38, p39, p40, p41, p42, p43, p44, p45, p46, p47, p48, p49], []⟩ X ⟨t, rfl, hb⟩
    rw [es0] at h
    refine wpOp_of rfl rfl ?_
    clear hK hg
    go_simp
    simpa [e16] using h
  · rintro a X ⟨t, rfl, hb⟩
    exact hQ t X hb
def hdTo (s0 : ByteArray) (hs : Nat → ByteArray) : Nat → ByteArray | 0 => s0 | k + 1 => hdTo s0 hs k ++ (⟨#[32]⟩ : ByteArray) ++ hs k
def enS (b : Bool) : ByteArray := if b then ⟨#[101, 110, 100, 105, 110, 103, 32]⟩ else ⟨#[45, 32]⟩
def obj0 (o : Ob) (vv bb : Nat) : ByteArray := o.kind ++ (⟨#[32]⟩ : ByteArray) ++ o.name ++ (⟨#[32]⟩ : ByteArray) ++ dS vv ++ (⟨#[32]⟩ : ByteArray) ++ dS bb ++ (⟨#[32]⟩ : ByteArray)
def objS (o : Ob) (vv bb : Nat) : ByteArray := hdTo (obj0 o vv bb ++ enS o.ending ++ quS o.text) o.hs o.hn ++ (⟨#[10]⟩ : ByteArray)
/-- sizes that a valid book has -/
structure ObSm (o : Ob) : Prop where
  k : (o.kind.size : Int) ≤ 1000000
  n : (o.name.size : Int) ≤ 1000000
  t : (o.text.size : Int) ≤ 1000000
  h : (o.hn : Int) ≤ 1000
  s : ∀ i, i < o.hn → ((o.hs i).size : Int) ≤ 1000000
theorem obj0_size {o : Ob} {vv bb : Nat} (hs : ObSm o) (hv : (vv : Int) ≤ 1000000) (hb : (bb : Int) ≤ 1000000) : ((obj0 o vv bb).size : Int) ≤ 4000010 := by
  have := hs.k
  have := hs.n
  have := dS_size hv
  have := dS_size hb
  have e1 : ((⟨#[32]⟩ : ByteArray)).size = 1 := rfl
  unfold obj0
  simp only [ByteArray.size_append, e1]
  omega
theorem hdTo_size {s0 : ByteArray} {hs : Nat → ByteArray} {n : Nat} (h : ∀ i, i < n → ((hs i).size : Int) ≤ 1000000) : ∀ k, k ≤ n → ((hdTo s0 hs k).size : Int) ≤ s0.size + 1000001 * (k : Int)
  | 0, _ => by simp [hdTo]
  | k + 1, hk => by
    have h1 := hdTo_size (s0 := s0) h k (by omega)
    have h2 := h k (by omega)
    have e : (hdTo s0 hs (k + 1)).size = (hdTo s0 hs k).size + 1 + (hs k).size := by
      rw [hdTo, ByteArray.size_append, ByteArray.size_append]; rfl
    rw [e]
    omega
theorem objS_size {o : Ob} {vv bb : Nat} (hs : ObSm o) (hv : (vv : Int) ≤ 1000000) (hb : (bb : Int) ≤ 1000000) : ((objS o vv bb).size : Int) ≤ 1100000000 := by
  have h1 := obj0_size hs hv hb
  have h2 := quS_size hs.t
  have h3 : (enS o.ending).size ≤ 7 := by unfold enS; split <;> simp [ByteArray.size]
  have h4 := hdTo_size (s0 := obj0 o vv bb ++ enS o.ending ++ quS o.text) hs.s o.hn (Nat.le_refl _)
  have h5 := hs.h
  have e1 : ((⟨#[10]⟩ : ByteArray)).size = 1 := rfl
  unfold objS
  simp only [ByteArray.size_append, e1] at h4 ⊢
  omega
set_option maxRecDepth 100000 in
set_option maxHeartbeats 4000000 in
theorem obj_any (o : Ob) (vv bb : Nat) (ad : Option Addr) (cap : Nat) (w : World) (lo hi : Nat) (hhi : hi ≤ w.heap.size) (hv : (vv : Int) ≤ 1000000) (hbo : (bb : Int) ≤ 1000000) (ev : o.ver = vv) (eb : o.born = bb) (hsm : ObSm o) (hc : StrsIn w lo hi ad o.hn o.hs) :
    Calls Tryz.prog 29 #[.agg #[.string o.kind, .string o.name, .int .i64 o.ver, .int .i64 o.born, .string o.text, .bool o.ending, .slice ad o.hn cap]] w fun e w' => e = .returned (.string (objS o vv bb)) ∧ Below w.heap.size w w' := by
  rw [ev, eb]
  have z0 := obj0_size hsm hv hbo
  have zq : ((quS o.text).size : Int) ≤ 3000002 := quS_size hsm.t
  have zt := hsm.t
  have zh := hsm.h
  have hk := hsm.k
  have hn := hsm.n
  have HC := hid hc
  have HSM := hid hsm
  clear ev eb hc hsm
  go_enter Tryz.func29, Tryz.ntmps29
  go_wp2_with fail
  obtain ⟨s0, es0⟩ : ∃ s0, s0 = obj0 o vv bb := ⟨_, rfl⟩
  rw [← es0] at z0
  have ES := hid (show objS o vv bb = hdTo (s0 ++ enS o.ending ++ quS o.text) o.hs o.hn ++ (⟨#[10]⟩ : ByteArray) by rw [es0]; rfl)
  refine objReg _ _ _ _ _ _ _ _ _ _ _ _ _ _ _ _ _ _ _ _ _ _ _ _ _ _ _ _ _ _ _ _ (fun _ => undef) o w.heap.size vv bb s0 _ (by simp) (by simp) (by simp) (by simp) (by simp) (by omega) (by omega) hv hbo (dS_size hv) (dS_size hbo) es0 _ ?_
  clear es0
  intro t X hX
  have hXw : Below w.heap.size w X := (below_alloc w _).trans (hX.mono (by simp))
  have zX := hX.size
  simp only [World.size_alloc] at zX
  have b4 : X.cell? ⟨w.heap.size, 4, none⟩ = some (.string o.text) := (hX.cell (p := ⟨w.heap.size, 4, none⟩) (by simp)).trans (by simp)
  have b5 : X.cell? ⟨w.heap.size, 5, none⟩ = some (.bool o.ending) := (hX.cell (p := ⟨w.heap.size, 5, none⟩) (by simp)).trans (by simp)
  have b6 : X.cell? ⟨w.heap.size, 6, none⟩ = some (.slice ad o.hn cap) := (hX.cell (p := ⟨w.heap.size, 6, none⟩) (by simp)).trans (by simp)
  obtain ⟨s1, es1⟩ : ∃ s1, s1 = s0 ++ enS o.ending := ⟨_, rfl⟩
  have z1 : (s1.size : Int) ≤ 4000017 := by
    rw [es1, ByteArray.size_append]
    have : (enS o.ending).size ≤ 7 := by unfold enS; split <;> simp [ByteArray.size]
    omega
  rw [← es1] at ES
  have HX := hid hX
  clear hX
  cases he : o.ending
  all_goals
    rw [he] at b5 es1
    simp only [enS, if_true, Bool.false_eq_true, if_false] at es1
    go_wp2_with (go_at_call 30; refine (quoteS_any o.text _ (by omega)).mono ?_; rintro e Y ⟨rfl, hY⟩)
    have hYw : Below w.heap.size w Y := hXw.trans (hY.mono (by omega))
    have zY := hY.size
    have c6 : Y.cell? ⟨w.heap.size, 6, none⟩ = some (.slice ad o.hn cap) := (hY.cell (p := ⟨w.heap.size, 6, none⟩) (by show w.heap.size < _; omega)).trans b6
    rw [← es1]
    have ES1 := hid es1
    clear b4 b5 b6 hXw HX hY es1
    go_loop [3, 4] (fun s i => ∃ k : Nat, k ≤ o.hn ∧ i = .int .i64 k ∧ s = .string (hdTo (s1 ++ quS o.text) o.hs k)) (fun _ i => o.hn - (intOf i).toNat)
    case atStart => exact ⟨0, Nat.zero_le _, rfl, rfl⟩
    case round =>
      obtain ⟨k, hk, rfl, rfl⟩ := hrel
      have zk := hdTo_size (s0 := s1 ++ quS o.text) HSM.out.s k hk
      simp only [ByteArray.size_append] at zk
      by_cases hkn : k < o.hn
      · obtain ⟨b, off, rfl, e2, e3, e4⟩ := HC.out k hkn
        have zhk := HSM.out.s k hkn
        have c8 : Y.cell? ⟨b, off + k, none⟩ = some (.string (o.hs k)) := (hYw.cell (p := ⟨b, off + k, none⟩) (by show b < _; omega)).trans e4
        have STEP := hid (show hdTo (s1 ++ quS o.text) o.hs (k + 1) = hdTo (s1 ++ quS o.text) o.hs k ++ (⟨#[32]⟩ : ByteArray) ++ o.hs k from rfl)
        obtain ⟨sk, hsk⟩ : ∃ sk, hdTo (s1 ++ quS o.text) o.hs k = sk := ⟨_, rfl⟩
        rw [hsk] at zk STEP
        rw [hsk]
        clear hsk
        go_wp2
        go_round
        case rel => exact ⟨k + 1, by omega, by go_num, by rw [STEP.out]⟩
        case measure => simp [intOf]; omega
      · have hkk : k = o.hn := by omega
        subst hkk
        obtain ⟨sk, hsk⟩ : ∃ sk, hdTo (s1 ++ quS o.text) o.hs o.hn = sk := ⟨_, rfl⟩
        have ES2 := hid (ES.out.trans (by rw [hsk]))
        rw [hsk] at zk
        rw [hsk]
        clear hsk
        go_wp2
        go_ret
        exact ⟨by rw [ES2.out]; rfl, hYw⟩

end Go.Proofs.YtkfbclopkgnacaaGreatDoor
namespace Go.Proofs.YtkfbclopkgnacaaGreatDoor
open Go.RowKit
theorem pa_append (a b : ByteArray) : (a ++ b).data.toList = a.data.toList ++ b.data.toList := by simp
theorem pa_ext {a b : ByteArray} (h : a.data.toList = b.data.toList) : a = b := by
  cases a; cases b
  simp only at h
  rw [Array.toList_inj.1 h]
theorem pa_len (a : ByteArray) : a.data.toList.length = a.size := by rw [Array.length_toList]; rfl
theorem pa_extract (a : ByteArray) (i j : Nat) : (a.extract i j).data.toList = (a.data.toList.drop i).take (j - i) := by
  rw [ByteArray.data_extract, Array.toList_extract, List.extract_eq_take_drop]
theorem byteAt_list (s : ByteArray) (i : Nat) : byteAt s i = (s.data.toList)[i]?.getD 0 := by
  unfold byteAt
  split
  · rename_i h
    rw [List.getElem?_eq_getElem (by rw [pa_len]; exact h)]
    rfl
  · rename_i h
    rw [List.getElem?_eq_none (by rw [pa_len]; omega)]
    rfl
/-- where the first word of a text ends -/
def IsEnd (s : ByteArray) (n : Nat) : Prop := n ≤ s.size ∧ (∀ j, j < n → byteAt s j ≠ 32) ∧ (n < s.size → byteAt s n = 32)
theorem isEnd_unique {s : ByteArray} {n m : Nat} (h : IsEnd s n) (k : IsEnd s m) : n = m := by
  rcases Nat.lt_trichotomy n m with e | e | e
  · exact absurd (h.2.2 (by have := k.1; omega)) (k.2.1 n e)
  · exact e
  · exact absurd (k.2.2 (by have := h.1; omega)) (h.2.1 m e)
theorem isEnd_from (s : ByteArray) : ∀ d n, n + d = s.size → (∀ j, j < n → byteAt s j ≠ 32) → ∃ m, IsEnd s m
  | 0, n, hd, h => ⟨n, by omega, h, fun hn => by omega⟩
  | d + 1, n, hd, h => by
    by_cases e : byteAt s n = 32
    · exact ⟨n, by omega, h, fun _ => e⟩
    · refine isEnd_from s d (n + 1) (by omega) (fun j hj => ?_)
      by_cases ej : j = n
      · rw [ej]; exact e
      · exact h j (by omega)
theorem isEnd_exists (s : ByteArray) : ∃ m, IsEnd s m := isEnd_from s s.size 0 (by omega) (fun j hj => absurd hj (Nat.not_lt_zero _))
noncomputable def wE (s : ByteArray) : Nat := Classical.choose (isEnd_exists s)
theorem wE_is (s : ByteArray) : IsEnd s (wE s) := Classical.choose_spec (isEnd_exists s)
theorem wE_eq {s : ByteArray} {n : Nat} (h : IsEnd s n) : wE s = n := isEnd_unique (wE_is s) h
/-- the first word, and what stands behind it -/
noncomputable def wH (s : ByteArray) : ByteArray := s.extract 0 (wE s)
noncomputable def wS (s : ByteArray) : Nat := if wE s < s.size then wE s + 1 else wE s
noncomputable def wR (s : ByteArray) : ByteArray := s.extract (wS s) s.size
noncomputable def rN (s : ByteArray) : Nat → ByteArray | 0 => s | k + 1 => wR (rN s k)
theorem wS_le (s : ByteArray) : wS s ≤ s.size := by
  unfold wS
  have := (wE_is s).1
  split <;> omega
theorem ext_size (s : ByteArray) (i j : Nat) (h : j ≤ s.size) : (s.extract i j).size = j - i := by
  have := congrArg List.length (pa_extract s i j)
  rw [pa_len, List.length_take, List.length_drop, pa_len] at this
  omega
theorem wR_size (s : ByteArray) : (wR s).size ≤ s.size := by
  unfold wR
  rw [ext_size _ _ _ (Nat.le_refl _)]
  omega
theorem rN_size (s : ByteArray) : ∀ k, (rN s k).size ≤ s.size
  | 0 => Nat.le_refl _
  | k + 1 => Nat.le_trans (wR_size _) (rN_size s k)
/-- a text without a space -/
def NoSp (a : ByteArray) : Prop := ∀ j, j < a.size → byteAt a j ≠ 32
theorem isEnd_app {a t : ByteArray} (h : NoSp a) : IsEnd (a ++ (⟨#[32]⟩ : ByteArray) ++ t) a.size := by
  have e : (a ++ (⟨#[32]⟩ : ByteArray) ++ t).data.toList = a.data.toList ++ (32 :: t.data.toList) := by
    rw [pa_append, pa_append]
    simp
  have hz : (a ++ (⟨#[32]⟩ : ByteArray) ++ t).size = a.size + 1 + t.size := by
    have := congrArg List.length e
    rw [pa_len, List.length_append, List.length_cons, pa_len, pa_len] at this
    omega
  refine ⟨by omega, fun j hj => ?_, fun _ => ?_⟩
  · have := h j hj
    rw [byteAt_list] at this ⊢
    rw [e, List.getElem?_append_left (by rw [pa_len]; exact hj)]
    exact this
  · rw [byteAt_list, e, List.getElem?_append_right (by rw [pa_len]; exact Nat.le_refl _), pa_len, Nat.sub_self]
    rfl
theorem size_app (a t : ByteArray) : (a ++ (⟨#[32]⟩ : ByteArray) ++ t).size = a.size + 1 + t.size := by
  rw [ByteArray.size_append, ByteArray.size_append]
  rfl
theorem wH_app {a t : ByteArray} (h : NoSp a) : wH (a ++ (⟨#[32]⟩ : ByteArray) ++ t) = a := by
  unfold wH
  rw [wE_eq (isEnd_app h)]
  refine pa_ext ?_
  rw [pa_extract, pa_append, pa_append, List.drop_zero, Nat.sub_zero, List.append_assoc, List.take_append_of_le_length (by rw [pa_len]; exact Nat.le_refl _), List.take_of_length_le (by rw [pa_len]; exact Nat.le_refl _)]
theorem wR_app {a t : ByteArray} (h : NoSp a) : wR (a ++ (⟨#[32]⟩ : ByteArray) ++ t) = t := by
  unfold wR wS
  rw [wE_eq (isEnd_app h), size_app, if_pos (by omega)]
  refine pa_ext ?_
  rw [pa_extract, pa_append]
  have e : (a ++ (⟨#[32]⟩ : ByteArray)).data.toList.length = a.size + 1 := by
    rw [pa_len, ByteArray.size_append]
    rfl
  rw [List.drop_append_of_le_length (by omega), List.drop_of_length_le (by omega), List.nil_append, List.take_of_length_le (by rw [pa_len]; omega)]
theorem wE_lt_app {a t : ByteArray} (h : NoSp a) : wE (a ++ (⟨#[32]⟩ : ByteArray) ++ t) = a.size := wE_eq (isEnd_app h)
theorem dg_ne (u k : Nat) : Lib.dg u k ≠ 32 := by
  unfold Lib.dg
  intro e
  have h := congrArg UInt8.toNat e
  rw [UInt8.toNat_ofNat'] at h
  have : u / 10 ^ k % 10 < 10 := Nat.mod_lt _ (by omega)
  have e32 : (32 : UInt8).toNat = 32 := rfl
  omega
theorem noSp_dec (n : Nat) : NoSp (dS n) := fun j hj => by
  rw [byteAt_list]
  show ((Lib.decDigits n).toArray.toList[j]?).getD 0 ≠ 32
  have hj' : j < Lib.nDigits n := by
    have : (dS n).size = (Lib.decDigits n).length := by simp [dS, ByteArray.size]
    rw [this, Lib.decDigits_length] at hj
    exact hj
  simp only []
  rw [Lib.decDigits_eq, List.getElem?_map, List.getElem?_range hj']
  exact dg_ne _ _
theorem noSp_name {s : ByteArray} (h : nameB s = true) : NoSp s := fun j hj e => by
  unfold nameB at h
  rw [Bool.and_eq_true] at h
  have := allTo_iff.1 h.2 j hj
  rw [e] at this
  exact absurd this (by decide)
end Go.Proofs.YtkfbclopkgnacaaGreatDoor
