import Derived.Test.YtkecnaaacbckoaaNr
namespace Go.Proofs.Ytkecnaaacbckoaa
open Go.RowKit
/-- a drawn region: values that hold whatever is added (G), and a last operation behind all others -/
def RG (n : Nat) (mk : (Nat → Value) → Array Value) (W : World) (G : Nat → Value → World → Prop) (dep : Nat → Nat → Prop) (Fin : Act → World → Prop) (l : Array Bool) (a : Act) (X : World) : Prop :=
  l.size = n + 1 ∧ (∀ i j, dep i j → l.getD i false = true → l.getD j false = true) ∧
    ((l.getD n false = true → (∀ i, i < n + 1 → l.getD i false = true) ∧ Fin a X) ∧ (l.getD n false = false → ∃ t : Nat → Value, a = ⟨mk t, []⟩ ∧ Below W.heap.size W X ∧ ∀ i, i < n → l.getD i false = true → G i (t i) X))
theorem regionG {P : Program} {id : Nat} {ops : Array Oper} {Q : Exit → Act → World → Prop} {a0 : Act} {W : World} (hm : P.follows .mixedOrders = true) (n : Nat)
    (mk : (Nat → Value) → Array Value) (G : Nat → Value → World → Prop) (dep : Nat → Nat → Prop) (Fin : Act → World → Prop)
    (hn : ops.size = n + 1) (hord : ((List.range ops.size).all fun i => match ops[i]? with | some o => o.after.all (fun e => decide (e.on < i)) | none => true) = true)
    (hdep : ∀ i j, dep i j → j < n)
    (hd : ∀ l i, i ∈ Region.ready .any ops l → ∀ j, dep i j → l.getD j false = true)
    (hall : ∀ f : Nat → Prop, (∀ i j, dep i j → f i → f j) → (∀ j, dep n j → f j) → ∀ j, j < n → f j)
    (st : ∀ i v X Y, G i v X → Below X.heap.size X Y → G i v Y)
    (h0 : a0 = ⟨mk (fun _ => undef), []⟩)
    (sg : ∀ i, i < n → ∀ t X K, Below W.heap.size W X → (∀ j, dep i j → G j (t j) X) → (∀ v Y, G i v Y → Below X.heap.size X Y → K ⟨mk (updT t i v), []⟩ Y) → wpOp P ops Q i K ⟨mk t, []⟩ X)
    (sl : ∀ t X K, Below W.heap.size W X → (∀ j, j < n → G j (t j) X) → (∀ a Y, Fin a Y → K a Y) → wpOp P ops Q n K ⟨mk t, []⟩ X)
    (hfin : ∀ a X, Fin a X → Q .normal a X) : (Code.region id ops true).wp P Q a0 W := by
  refine wp_region_inv hm (RG n mk W G dep Fin) ?_ ?_ ?_ ?_
  · have hz : ∀ i, (Array.replicate ops.size false).getD i false = false := fun i => by simp [Array.getD]
    refine ⟨by simp [hn], fun i j _ h => ?_, fun h => ?_, fun _ => ⟨fun _ => undef, h0, (Below.refl _ _).drew, fun i _ h => ?_⟩⟩ <;> (rw [hz] at h; cases h)
  · rintro l a X ⟨hs, _⟩
    rw [hs, hn]
  · rintro l a X ⟨hs, _, h6, _⟩ hr
    have AL := all_listed hord (by rw [hs, hn]) hr
    exact hfin a X (h6 (AL n (by omega))).2
  · rintro l a X i ⟨hs, hcl, h6, hg⟩ hr
    have di := hd l i hr
    obtain ⟨hu, o, ho, _⟩ := mem_ready.1 hr
    have hi7 : i < n + 1 := by
      rcases Nat.lt_or_ge i (n + 1) with h | h
      · exact h
      · rw [Array.getElem?_eq_none (by omega)] at ho
        cases ho
    have hui : l.getD i false = false := by
      have : l.getD i true = false := hu
      simpa [Array.getD, hs, hi7] using this
    have l6 : l.getD n false = false := by
      cases h : l.getD n false with
      | false => rfl
      | true => rw [(h6 h).1 i hi7] at hui; cases hui
    obtain ⟨t, rfl, hb, gg⟩ := hg l6
    have kp : ∀ j, ¬ j = i → (l.setIfInBounds i true).getD j false = l.getD j false := fun j hj => by rw [getD_set (by omega), if_neg hj]
    have ki : (l.setIfInBounds i true).getD i false = true := by rw [getD_set (by omega), if_pos rfl]
    have hs' : (l.setIfInBounds i true).size = n + 1 := by simp [hs]
    have ku : ∀ j, l.getD j false = true → (l.setIfInBounds i true).getD j false = true := fun j h => by
      by_cases e : j = i
      · subst e; exact ki
      · rw [kp j e]; exact h
    have hcl' : ∀ p j, dep p j → (l.setIfInBounds i true).getD p false = true → (l.setIfInBounds i true).getD j false = true := fun p j hj h => by
      by_cases e : p = i
      · subst e; exact ku j (di j hj)
      · rw [kp p e] at h; exact ku j (hcl p j hj h)
    clear hr hu ho h6 hg
    by_cases hin : i = n
    · subst hin
      have al := hall (fun j => l.getD j false = true) hcl di
      refine sl t X _ hb (fun j hj => gg j hj (al j hj)) (fun a Y hY => ⟨hs', hcl', fun _ => ⟨fun j hj => ?_, hY⟩, fun h => ?_⟩)
      · by_cases e : j = i
        · subst e; exact ki
        · exact ku j (al j (by omega))
      · rw [ki] at h; cases h
    · have hno : (l.setIfInBounds i true).getD n false = false := by rw [kp n (fun e => hin e.symm)]; exact l6
      refine sg i (by omega) t X _ hb (fun j hj => gg j (hdep i j hj) (di j hj)) (fun v Y hv hY => ⟨hs', hcl', fun h => ?_, fun _ => ⟨updT t i v, rfl, hb.trans (hY.mono hb.size), fun j j1 h => ?_⟩⟩)
      · rw [hno] at h; cases h
      · by_cases e : j = i
        · subst e; rw [updT_same]; exact hv
        · rw [kp j e] at h; rw [updT_ne e]; exact st _ _ _ _ (gg j j1 h) hY
end Go.Proofs.Ytkecnaaacbckoaa
namespace Go.Proofs.Ytkecnaaacbckoaa
open Go.RowKit
def fsV : Value → Value | .tuple a => a.getD 0 undef | v => v
def snV : Value → Value | .tuple a => a.getD 1 undef | v => v
theorem any_listed {ops : Array Oper} {l : Array Bool} (hord : ((List.range ops.size).all fun i => match ops[i]? with | some o => o.after.all (fun e => !Region.binds .any e || decide (e.on < i)) | none => true) = true) (hs : l.size = ops.size) (hr : Region.ready .any ops l = []) : ∀ i, i < ops.size → l.getD i false = true := by
  have conv : ∀ i, i < ops.size → l.getD i true = l.getD i false := fun i hi => by simp [Array.getD, hs, hi]
  intro i
  induction i using Nat.strongRecOn with
  | _ i ih =>
    intro hi
    cases hg : l.getD i false with
    | true => rfl
    | false =>
      exfalso
      have hmem : i ∈ Region.ready .any ops l := by
        unfold Region.ready
        refine List.mem_filter.2 ⟨List.mem_range.2 hi, ?_⟩
        rw [conv i hi, hg]
        have ho := List.all_eq_true.1 hord i (List.mem_range.2 hi)
        rw [Array.getElem?_eq_getElem hi] at ho ⊢
        simp only [Bool.not_false, Bool.true_and, Option.map_some, Option.getD_some]
        refine Array.all_eq_true'.2 fun e he => ?_
        have h1 := Array.all_eq_true'.1 ho e he
        cases hb : Region.binds .any e with
        | false => rfl
        | true =>
          rw [hb] at h1
          have h2 : e.on < i := by simpa using h1
          rw [ih e.on h2 (by omega)]
          rfl
      rw [hr] at hmem
      cases hmem
/-- a drawn region of a law whose function has two answers -/
def RT (mk mkF : (Nat → Value) → Array Value) (W : World) (G : Nat → Value → World → Prop) (F4 : Value → Nat → Nat → World → Prop) (zs : Array Value) (Fin : Value → Value → World → Prop) (l : Array Bool) (a : Act) (X : World) : Prop :=
  ∃ t : Nat → Value, l.size = 11 ∧ Below W.heap.size W X ∧
    (l.getD 10 false = true → a = ⟨mkF t, []⟩ ∧ (∀ i, i < 11 → l.getD i false = true) ∧ t 7 = snV (t 4) ∧ Fin (t 4) (t 8) X) ∧
    (l.getD 10 false = false → a = ⟨mk t, []⟩ ∧
      (l.getD 4 false = true → ∃ u0 u1, t 4 = .tuple #[u0, u1]) ∧
      (l.getD 5 false = true → l.getD 4 false = true ∧ t 5 = t 4) ∧ (l.getD 6 false = true → l.getD 5 false = true ∧ t 6 = fsV (t 4)) ∧ (l.getD 7 false = true → l.getD 5 false = true ∧ t 7 = snV (t 4)) ∧
      (l.getD 9 false = true → (∀ i, i < 7 → l.getD i false = true) ∧ l.getD 8 false = true ∧ Fin (t 4) (t 8) X) ∧
      (l.getD 9 false = false → (∀ i, i < 4 → l.getD i false = true → G i (t i) X) ∧
        (l.getD 4 false = true → ∃ lo hi, W.heap.size ≤ lo ∧ F4 (t 4) lo hi X ∧ (l.getD 8 false = true → ∃ b, t 8 = .pointer (some ⟨b, 0, none⟩) ∧ (b < lo ∨ hi ≤ b))) ∧
        (l.getD 8 false = true → ∃ b, t 8 = .pointer (some ⟨b, 0, none⟩) ∧ W.heap.size ≤ b ∧ BoxC X b zs)))
theorem regionT {P : Program} {id : Nat} {ops : Array Oper} {Q : Exit → Act → World → Prop} {a0 : Act} {W : World} (hm : P.follows .mixedOrders = true)
    (mk mkF : (Nat → Value) → Array Value) (G : Nat → Value → World → Prop) (F4 : Value → Nat → Nat → World → Prop) (zs : Array Value) (T : TypeId) (Fin : Value → Value → World → Prop)
    (hn : ops.size = 11) (hord : ((List.range ops.size).all fun i => match ops[i]? with | some o => o.after.all (fun e => !Region.binds .any e || decide (e.on < i)) | none => true) = true)
    (hd : ∀ l i, i ∈ Region.ready .any ops l → (i = 1 → l.getD 0 false = true) ∧ (i = 3 → l.getD 2 false = true) ∧ (i = 4 → l.getD 1 false = true ∧ l.getD 3 false = true) ∧ (i = 5 → l.getD 4 false = true) ∧ (i = 6 → l.getD 5 false = true) ∧ (i = 7 → l.getD 5 false = true) ∧ (i = 9 → (∀ j, j < 7 → l.getD j false = true) ∧ l.getD 8 false = true) ∧ (i = 10 → ∀ j, j < 10 → l.getD j false = true))
    (st : ∀ i v X Y, G i v X → Below X.heap.size X Y → G i v Y) (st4 : ∀ v lo hi X Y, F4 v lo hi X → Below X.heap.size X Y → F4 v lo hi Y) (hi4 : ∀ v lo hi X, F4 v lo hi X → hi ≤ X.heap.size) (tu4 : ∀ v lo hi X, F4 v lo hi X → ∃ u0 u1, v = .tuple #[u0, u1])
    (h0 : a0 = ⟨mk (fun _ => undef), []⟩)
    (s0 : ∀ (t : Nat → Value) (X : World) (K : Act → World → Prop), Below W.heap.size W X → (∀ v Y, G 0 v Y → Below X.heap.size X Y → K ⟨mk (updT t 0 v), []⟩ Y) → wpOp P ops Q 0 K ⟨mk t, []⟩ X)
    (s1 : ∀ (t : Nat → Value) (X : World) (K : Act → World → Prop), Below W.heap.size W X → G 0 (t 0) X → (∀ v Y, G 1 v Y → Below X.heap.size X Y → K ⟨mk (updT t 1 v), []⟩ Y) → wpOp P ops Q 1 K ⟨mk t, []⟩ X)
    (s2 : ∀ (t : Nat → Value) (X : World) (K : Act → World → Prop), Below W.heap.size W X → (∀ v Y, G 2 v Y → Below X.heap.size X Y → K ⟨mk (updT t 2 v), []⟩ Y) → wpOp P ops Q 2 K ⟨mk t, []⟩ X)
    (s3 : ∀ (t : Nat → Value) (X : World) (K : Act → World → Prop), Below W.heap.size W X → G 2 (t 2) X → (∀ v Y, G 3 v Y → Below X.heap.size X Y → K ⟨mk (updT t 3 v), []⟩ Y) → wpOp P ops Q 3 K ⟨mk t, []⟩ X)
    (s4 : ∀ (t : Nat → Value) (X : World) (K : Act → World → Prop), Below W.heap.size W X → G 1 (t 1) X → G 3 (t 3) X → (∀ v Y, F4 v X.heap.size Y.heap.size Y → Below X.heap.size X Y → K ⟨mk (updT t 4 v), []⟩ Y) → wpOp P ops Q 4 K ⟨mk t, []⟩ X)
    (s5 : ∀ (t : Nat → Value) (X : World) (K : Act → World → Prop), K ⟨mk (updT t 5 (t 4)), []⟩ X → wpOp P ops Q 5 K ⟨mk t, []⟩ X)
    (s6 : ∀ (t : Nat → Value) (X : World) (K : Act → World → Prop) (u0 u1 : Value), t 5 = .tuple #[u0, u1] → K ⟨mk (updT t 6 u0), []⟩ X → wpOp P ops Q 6 K ⟨mk t, []⟩ X)
    (s7 : ∀ (t : Nat → Value) (X : World) (K : Act → World → Prop) (u0 u1 : Value), t 5 = .tuple #[u0, u1] → K ⟨mk (updT t 7 u1), []⟩ X → wpOp P ops Q 7 K ⟨mk t, []⟩ X)
    (sa : ∀ (t : Nat → Value) (X : World) (K : Act → World → Prop), K ⟨mk (updT t 8 (.pointer (some ⟨X.heap.size, 0, none⟩))), []⟩ (X.alloc (.cells zs T)) → wpOp P ops Q 8 K ⟨mk t, []⟩ X)
    (ss : ∀ (t : Nat → Value) (X : World) (K : Act → World → Prop) (b lo hi : Nat), Below W.heap.size W X → t 8 = .pointer (some ⟨b, 0, none⟩) → W.heap.size ≤ b → BoxC X b zs → F4 (t 4) lo hi X → W.heap.size ≤ lo → (b < lo ∨ hi ≤ b) → t 6 = fsV (t 4) → (∀ Y, Fin (t 4) (t 8) Y → Below W.heap.size W Y → K ⟨mk t, []⟩ Y) → wpOp P ops Q 9 K ⟨mk t, []⟩ X)
    (s10 : ∀ (t : Nat → Value) (X : World) (K : Act → World → Prop), K ⟨mkF t, []⟩ X → wpOp P ops Q 10 K ⟨mk t, []⟩ X)
    (hfin : ∀ (t : Nat → Value) (X : World), t 7 = snV (t 4) → Fin (t 4) (t 8) X → Below W.heap.size W X → Q .normal ⟨mkF t, []⟩ X) : (Code.region id ops true).wp P Q a0 W := by
  refine wp_region_inv hm (RT mk mkF W G F4 zs Fin) ?_ ?_ ?_ ?_
  · have hz : ∀ i, (Array.replicate ops.size false).getD i false = false := fun i => by simp [Array.getD]
    refine ⟨fun _ => undef, by simp [hn], (Below.refl _ _).drew, fun h => ?_, fun _ => ⟨h0, fun h => ?_, fun h => ?_, fun h => ?_, fun h => ?_, fun h => ?_, fun _ => ⟨fun i _ h => ?_, fun h => ?_, fun h => ?_⟩⟩⟩ <;> (rw [hz] at h; cases h)
  · rintro l a X ⟨t, hs, _⟩
    rw [hs, hn]
  · rintro l a X ⟨t, hs, hb, h10, _⟩ hr
    have AL := any_listed hord (by rw [hs, hn]) hr
    obtain ⟨rfl, _, e7, hF⟩ := h10 (AL 10 (by omega))
    exact hfin t X e7 hF hb
  · rintro l a X i ⟨t, hs, hb, h10, hno⟩ hr
    obtain ⟨d1, d3, d4, d5, d6, d7, d9, d10⟩ := hd l i hr
    obtain ⟨hu, o, ho, _⟩ := mem_ready.1 hr
    have hi11 : i < 11 := by
      rcases Nat.lt_or_ge i 11 with h | h
      · exact h
      · rw [Array.getElem?_eq_none (by omega)] at ho
        cases ho
    have hui : l.getD i false = false := by
      have : l.getD i true = false := hu
      simpa [Array.getD, hs, hi11] using this
    have l10 : l.getD 10 false = false := by
      cases h : l.getD 10 false with
      | false => rfl
      | true => rw [(h10 h).2.1 i hi11] at hui; cases hui
    obtain ⟨rfl, g4, g5, g6, g7, g9, gg⟩ := hno l10
    have kp : ∀ j, ¬ j = i → (l.setIfInBounds i true).getD j false = l.getD j false := fun j hj => by rw [getD_set (by omega), if_neg hj]
    have ki : (l.setIfInBounds i true).getD i false = true := by rw [getD_set (by omega), if_pos rfl]
    have hs' : (l.setIfInBounds i true).size = 11 := by simp [hs]
    have l9 : i < 7 ∨ i = 8 → l.getD 9 false = false := fun hi => by
      cases h : l.getD 9 false with
      | false => rfl
      | true =>
        obtain ⟨a1, a2, _⟩ := g9 h
        rcases hi with h2 | rfl
        · rw [a1 i h2] at hui; cases hui
        · rw [a2] at hui; cases hui
    clear hr hu ho h10 hno
    -- a value that holds whatever is added
    have gstep : ∀ (p : Nat), p < 4 → i = p → ∀ v Y, G p v Y → Below X.heap.size X Y → RT mk mkF W G F4 zs Fin (l.setIfInBounds i true) ⟨mk (updT t p v), []⟩ Y := by
      rintro p hp rfl v Y hv hY
      have n9 := l9 (Or.inl (by omega))
      obtain ⟨gA, gB, gC⟩ := gg n9
      refine ⟨updT t i v, hs', hb.trans (hY.mono hb.size), fun h => ?_, fun _ => ⟨rfl, fun h => ?_, fun h => ?_, fun h => ?_, fun h => ?_, fun h => ?_, fun _ => ⟨fun j hj h => ?_, fun h => ?_, fun h => ?_⟩⟩⟩
      · rw [kp 10 (by omega), l10] at h; cases h
      · rw [kp 4 (by omega)] at h; rw [updT_ne (by omega)]; exact g4 h
      · rw [kp 5 (by omega)] at h; rw [kp 4 (by omega), updT_ne (by omega), updT_ne (by omega)]; exact g5 h
      · rw [kp 6 (by omega)] at h; rw [kp 5 (by omega), updT_ne (by omega), updT_ne (by omega)]; exact g6 h
      · rw [kp 7 (by omega)] at h; rw [kp 5 (by omega), updT_ne (by omega), updT_ne (by omega)]; exact g7 h
      · rw [kp 9 (by omega), n9] at h; cases h
      · by_cases e : j = i
        · subst e; rw [updT_same]; exact hv
        · rw [kp j e] at h; rw [updT_ne e]; exact st _ _ _ _ (gA j hj h) hY
      · rw [kp 4 (by omega)] at h
        obtain ⟨lo, hi, e1, e2, e3⟩ := gB h
        rw [updT_ne (by omega), updT_ne (by omega), kp 8 (by omega)]
        exact ⟨lo, hi, e1, st4 _ _ _ _ _ e2 hY, e3⟩
      · rw [kp 8 (by omega)] at h
        rw [updT_ne (by omega)]
        obtain ⟨b, e1, e2, e3⟩ := gC h
        exact ⟨b, e1, e2, e3.below hY⟩
    rcases (show i = 0 ∨ i = 1 ∨ i = 2 ∨ i = 3 ∨ i = 4 ∨ i = 5 ∨ i = 6 ∨ i = 7 ∨ i = 8 ∨ i = 9 ∨ i = 10 by omega) with rfl | rfl | rfl | rfl | rfl | rfl | rfl | rfl | rfl | rfl | rfl
    · exact s0 t X _ hb (gstep 0 (by omega) rfl)
    · exact s1 t X _ hb ((gg (l9 (Or.inl (by omega)))).1 0 (by omega) (d1 rfl)) (gstep 1 (by omega) rfl)
    · exact s2 t X _ hb (gstep 2 (by omega) rfl)
    · exact s3 t X _ hb ((gg (l9 (Or.inl (by omega)))).1 2 (by omega) (d3 rfl)) (gstep 3 (by omega) rfl)
    · have n9 := l9 (Or.inl (by omega))
      obtain ⟨gA, gB, gC⟩ := gg n9
      refine s4 t X _ hb (gA 1 (by omega) (d4 rfl).1) (gA 3 (by omega) (d4 rfl).2) (fun v Y hv hY => ⟨updT t 4 v, hs', hb.trans (hY.mono hb.size), fun h => ?_, fun _ => ⟨rfl, fun h => ?_, fun h => ?_, fun h => ?_, fun h => ?_, fun h => ?_, fun _ => ⟨fun j hj h => ?_, fun h => ?_, fun h => ?_⟩⟩⟩)
      · rw [kp 10 (by omega), l10] at h; cases h
      · rw [updT_same]; exact tu4 _ _ _ _ hv
      · rw [kp 5 (by omega)] at h; rw [(g5 h).1] at hui; cases hui
      · rw [kp 6 (by omega)] at h; rw [(g5 (g6 h).1).1] at hui; cases hui
      · rw [kp 7 (by omega)] at h; rw [(g5 (g7 h).1).1] at hui; cases hui
      · rw [kp 9 (by omega), n9] at h; cases h
      · rw [kp j (by omega)] at h; rw [updT_ne (by omega)]; exact st _ _ _ _ (gA j hj h) hY
      · rw [updT_same, updT_ne (by omega)]
        refine ⟨X.heap.size, Y.heap.size, hb.size, hv, fun h => ?_⟩
        rw [kp 8 (by omega)] at h
        obtain ⟨b, e1, e2, e3⟩ := gC h
        exact ⟨b, e1, Or.inl e3.lt⟩
      · rw [kp 8 (by omega)] at h
        rw [updT_ne (by omega)]
        obtain ⟨b, e1, e2, e3⟩ := gC h
        exact ⟨b, e1, e2, e3.below hY⟩
    · have n9 := l9 (Or.inl (by omega))
      obtain ⟨gA, gB, gC⟩ := gg n9
      refine s5 t X _ ⟨updT t 5 (t 4), hs', hb, fun h => ?_, fun _ => ⟨rfl, fun h => ?_, fun h => ?_, fun h => ?_, fun h => ?_, fun h => ?_, fun _ => ⟨fun j hj h => ?_, fun h => ?_, fun h => ?_⟩⟩⟩
      · rw [kp 10 (by omega), l10] at h; cases h
      · rw [kp 4 (by omega)] at h; rw [updT_ne (by omega)]; exact g4 h
      · rw [kp 4 (by omega), updT_same, updT_ne (by omega)]; exact ⟨d5 rfl, rfl⟩
      · rw [kp 6 (by omega)] at h; rw [(g6 h).1] at hui; cases hui
      · rw [kp 7 (by omega)] at h; rw [(g7 h).1] at hui; cases hui
      · rw [kp 9 (by omega), n9] at h; cases h
      · rw [kp j (by omega)] at h; rw [updT_ne (by omega)]; exact gA j hj h
      · rw [kp 4 (by omega)] at h; rw [updT_ne (by omega), updT_ne (by omega), kp 8 (by omega)]; exact gB h
      · rw [kp 8 (by omega)] at h; rw [updT_ne (by omega)]; exact gC h
    · have n9 := l9 (Or.inl (by omega))
      obtain ⟨gA, gB, gC⟩ := gg n9
      obtain ⟨m4, m5⟩ := g5 (d6 rfl)
      obtain ⟨u0, u1, m6⟩ := g4 m4
      refine s6 t X _ u0 u1 (by rw [m5, m6]) ⟨updT t 6 u0, hs', hb, fun h => ?_, fun _ => ⟨rfl, fun h => ?_, fun h => ?_, fun h => ?_, fun h => ?_, fun h => ?_, fun _ => ⟨fun j hj h => ?_, fun h => ?_, fun h => ?_⟩⟩⟩
      · rw [kp 10 (by omega), l10] at h; cases h
      · rw [kp 4 (by omega)] at h; rw [updT_ne (by omega)]; exact g4 h
      · rw [kp 5 (by omega)] at h; rw [kp 4 (by omega), updT_ne (by omega), updT_ne (by omega)]; exact g5 h
      · rw [kp 5 (by omega), updT_same, updT_ne (by omega), m6]; exact ⟨d6 rfl, rfl⟩
      · rw [kp 7 (by omega)] at h; rw [kp 5 (by omega), updT_ne (by omega), updT_ne (by omega)]; exact g7 h
      · rw [kp 9 (by omega), n9] at h; cases h
      · rw [kp j (by omega)] at h; rw [updT_ne (by omega)]; exact gA j hj h
      · rw [kp 4 (by omega)] at h; rw [updT_ne (by omega), updT_ne (by omega), kp 8 (by omega)]; exact gB h
      · rw [kp 8 (by omega)] at h; rw [updT_ne (by omega)]; exact gC h
    · obtain ⟨m4, m5⟩ := g5 (d7 rfl)
      obtain ⟨u0, u1, m6⟩ := g4 m4
      refine s7 t X _ u0 u1 (by rw [m5, m6]) ⟨updT t 7 u1, hs', hb, fun h => ?_, fun _ => ⟨rfl, fun h => ?_, fun h => ?_, fun h => ?_, fun h => ?_, fun h => ?_, fun h9 => ?_⟩⟩
      · rw [kp 10 (by omega), l10] at h; cases h
      · rw [kp 4 (by omega)] at h; rw [updT_ne (by omega)]; exact g4 h
      · rw [kp 5 (by omega)] at h; rw [kp 4 (by omega), updT_ne (by omega), updT_ne (by omega)]; exact g5 h
      · rw [kp 6 (by omega)] at h; rw [kp 5 (by omega), updT_ne (by omega), updT_ne (by omega)]; exact g6 h
      · rw [kp 5 (by omega), updT_same, updT_ne (by omega), m6]; exact ⟨d7 rfl, rfl⟩
      · rw [kp 9 (by omega)] at h
        obtain ⟨a1, a2, a3⟩ := g9 h
        refine ⟨fun j hj => by rw [kp j (by omega)]; exact a1 j hj, by rw [kp 8 (by omega)]; exact a2, ?_⟩
        rw [updT_ne (by omega), updT_ne (by omega)]
        exact a3
      · rw [kp 9 (by omega)] at h9
        obtain ⟨gA, gB, gC⟩ := gg h9
        refine ⟨fun j hj h => ?_, fun h => ?_, fun h => ?_⟩
        · rw [kp j (by omega)] at h; rw [updT_ne (by omega)]; exact gA j hj h
        · rw [kp 4 (by omega)] at h; rw [updT_ne (by omega), updT_ne (by omega), kp 8 (by omega)]; exact gB h
        · rw [kp 8 (by omega)] at h; rw [updT_ne (by omega)]; exact gC h
    · have n9 := l9 (Or.inr rfl)
      obtain ⟨gA, gB, gC⟩ := gg n9
      have hY := below_alloc X (.cells zs T)
      refine sa t X _ ⟨updT t 8 _, hs', hb.alloc hb.size _, fun h => ?_, fun _ => ⟨rfl, fun h => ?_, fun h => ?_, fun h => ?_, fun h => ?_, fun h => ?_, fun _ => ⟨fun j hj h => ?_, fun h => ?_, fun _ => ?_⟩⟩⟩
      · rw [kp 10 (by omega), l10] at h; cases h
      · rw [kp 4 (by omega)] at h; rw [updT_ne (by omega)]; exact g4 h
      · rw [kp 5 (by omega)] at h; rw [kp 4 (by omega), updT_ne (by omega), updT_ne (by omega)]; exact g5 h
      · rw [kp 6 (by omega)] at h; rw [kp 5 (by omega), updT_ne (by omega), updT_ne (by omega)]; exact g6 h
      · rw [kp 7 (by omega)] at h; rw [kp 5 (by omega), updT_ne (by omega), updT_ne (by omega)]; exact g7 h
      · rw [kp 9 (by omega), n9] at h; cases h
      · rw [kp j (by omega)] at h; rw [updT_ne (by omega)]; exact st _ _ _ _ (gA j hj h) hY
      · rw [kp 4 (by omega)] at h
        rw [updT_ne (by omega), updT_same]
        obtain ⟨lo, hi, e1, e2, e3⟩ := gB h
        exact ⟨lo, hi, e1, st4 _ _ _ _ _ e2 hY, fun _ => ⟨X.heap.size, rfl, Or.inr (hi4 _ _ _ _ e2)⟩⟩
      · rw [updT_same]
        exact ⟨X.heap.size, rfl, hb.size, boxC_new (Below.refl _ _)⟩
    · obtain ⟨a1, a2⟩ := d9 rfl
      have n9 : l.getD 9 false = false := hui
      obtain ⟨gA, gB, gC⟩ := gg n9
      obtain ⟨lo, hi, e1, e2, e3⟩ := gB (a1 4 (by omega))
      obtain ⟨b, f1, f2⟩ := e3 a2
      obtain ⟨b', f3, f4, f5⟩ := gC a2
      obtain rfl : b' = b := by rw [f1] at f3; cases f3; rfl
      refine ss t X _ b' lo hi hb f1 f4 f5 e2 e1 f2 (g6 (a1 6 (by omega))).2 (fun Y hY hbY => ⟨t, hs', hbY, fun h => ?_, fun _ => ⟨rfl, fun h => ?_, fun h => ?_, fun h => ?_, fun h => ?_, fun _ => ⟨fun j hj => ?_, ?_, hY⟩, fun h => ?_⟩⟩)
      · rw [kp 10 (by omega), l10] at h; cases h
      · rw [kp 4 (by omega)] at h; exact g4 h
      · rw [kp 5 (by omega)] at h; rw [kp 4 (by omega)]; exact g5 h
      · rw [kp 6 (by omega)] at h; rw [kp 5 (by omega)]; exact g6 h
      · rw [kp 7 (by omega)] at h; rw [kp 5 (by omega)]; exact g7 h
      · rw [kp j (by omega)]; exact a1 j hj
      · rw [kp 8 (by omega)]; exact a2
      · rw [ki] at h; cases h
    · have al := d10 rfl
      obtain ⟨a1, a2, a3⟩ := g9 (al 9 (by omega))
      refine s10 t X _ ⟨t, hs', hb, fun _ => ⟨rfl, fun j hj => ?_, (g7 (al 7 (by omega))).2, a3⟩, fun h => ?_⟩
      · by_cases e : j = 10
        · subst e; exact ki
        · rw [kp j e]; exact al j (by omega)
      · rw [ki] at h; cases h
end Go.Proofs.Ytkecnaaacbckoaa
