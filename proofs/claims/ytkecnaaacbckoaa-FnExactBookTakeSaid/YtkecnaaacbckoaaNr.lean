import Derived.Test.YtkecnaaacbckoaaOa
import Derived.Test.YtkecnaaacbckoaaGw
namespace Go.Proofs.Ytkecnaaacbckoaa
open Go.RowKit
theorem drew_size (w : World) : w.drew.heap.size = w.heap.size := rfl
structure BoxC (w : World) (b : Nat) (c : Array Value) : Prop where
  cell : ∀ i, w.cell? ⟨b, i, none⟩ = c[i]?
  free : ∀ i, w.frozen? ⟨b, i, none⟩ = false
  lt : b < w.heap.size
theorem boxC_new {w w1 : World} {c : Array Value} {t : TypeId} (hb : Below (w.alloc (.cells c t)).heap.size (w.alloc (.cells c t)) w1) : BoxC w1 w.heap.size c :=
  ⟨box_cell hb, fun i => (hb.frozen (p := ⟨w.heap.size, i, none⟩) (by simp)).trans (World.frozen?_alloc_at _ _ _ _ rfl), by have := hb.size; simp at this; omega⟩
theorem BoxC.below {w w1 : World} {b : Nat} {c : Array Value} (h : BoxC w b c) (hb : Below w.heap.size w w1) : BoxC w1 b c :=
  ⟨fun i => (hb.cell (p := ⟨b, i, none⟩) h.lt).trans (h.cell i), fun i => (hb.frozen (p := ⟨b, i, none⟩) h.lt).trans (h.free i), Nat.lt_of_lt_of_le h.lt hb.size⟩
def updT (t : Nat → Value) (i : Nat) (v : Value) : Nat → Value := fun j => bif j == i then v else t j
theorem updT_ne {t : Nat → Value} {i j : Nat} {v : Value} (h : ¬ j = i) : updT t i v j = t j := by
  have : (j == i) = false := by simpa using h
  simp [updT, this]
theorem updT_same {t : Nat → Value} {i : Nat} {v : Value} : updT t i v i = v := by simp [updT]
/-- a drawn region of a law: values that hold whatever is added (G), one call whose answer is new (c), a box (al), the store of the answer into it (the last) -/
def RN (n c al : Nat) (mk : (Nat → Value) → Array Value) (W : World) (G : Nat → Value → World → Prop) (F4 : Value → Nat → Nat → World → Prop) (zs : Array Value) (Fin : Value → Value → World → Prop) (l : Array Bool) (a : Act) (X : World) : Prop :=
  ∃ t : Nat → Value, a = ⟨mk t, []⟩ ∧ l.size = n + 1 ∧ Below W.heap.size W X ∧
    (l.getD n false = true → (∀ i, i < n + 1 → l.getD i false = true) ∧ Fin (t c) (t al) X) ∧
    (l.getD n false = false → (∀ i, i < n → ¬ i = c → ¬ i = al → l.getD i false = true → G i (t i) X) ∧
      (l.getD c false = true → ∃ lo hi, W.heap.size ≤ lo ∧ F4 (t c) lo hi X ∧ (l.getD al false = true → ∃ b, t al = .pointer (some ⟨b, 0, none⟩) ∧ (b < lo ∨ hi ≤ b))) ∧
      (l.getD al false = true → ∃ b, t al = .pointer (some ⟨b, 0, none⟩) ∧ W.heap.size ≤ b ∧ BoxC X b zs))
theorem regionN {P : Program} {id : Nat} {ops : Array Oper} {Q : Exit → Act → World → Prop} {a0 : Act} {W : World} (hm : P.follows .mixedOrders = true) (n c al : Nat) (hc : c < n) (ha : al < n) (hca : ¬ c = al)
    (mk : (Nat → Value) → Array Value) (G : Nat → Value → World → Prop) (F4 : Value → Nat → Nat → World → Prop) (zs : Array Value) (T : TypeId) (Fin : Value → Value → World → Prop) (dep : Nat → Nat → Prop)
    (hn : ops.size = n + 1) (hord : ((List.range ops.size).all fun i => match ops[i]? with | some o => o.after.all (fun e => decide (e.on < i)) | none => true) = true)
    (hdep : ∀ i j, dep i j → j < n ∧ ¬ j = c ∧ ¬ j = al)
    (hd : ∀ l i, i ∈ Region.ready .any ops l → (∀ j, dep i j → l.getD j false = true) ∧ (i = n → ∀ j, j < n → l.getD j false = true))
    (st : ∀ i v X Y, G i v X → Below X.heap.size X Y → G i v Y) (st4 : ∀ v lo hi X Y, F4 v lo hi X → Below X.heap.size X Y → F4 v lo hi Y) (hi4 : ∀ v lo hi X, F4 v lo hi X → hi ≤ X.heap.size)
    (h0 : a0 = ⟨mk (fun _ => undef), []⟩)
    (sg : ∀ i, i < n → ¬ i = c → ¬ i = al → ∀ t X K, Below W.heap.size W X → (∀ j, dep i j → G j (t j) X) → (∀ v Y, G i v Y → Below X.heap.size X Y → K ⟨mk (updT t i v), []⟩ Y) → wpOp P ops Q i K ⟨mk t, []⟩ X)
    (sc : ∀ t X K, Below W.heap.size W X → (∀ j, dep c j → G j (t j) X) → (∀ v Y, F4 v X.heap.size Y.heap.size Y → Below X.heap.size X Y → K ⟨mk (updT t c v), []⟩ Y) → wpOp P ops Q c K ⟨mk t, []⟩ X)
    (sa : ∀ t X K, K ⟨mk (updT t al (.pointer (some ⟨X.heap.size, 0, none⟩))), []⟩ (X.alloc (.cells zs T)) → wpOp P ops Q al K ⟨mk t, []⟩ X)
    (ss : ∀ t X K b lo hi, Below W.heap.size W X → t al = .pointer (some ⟨b, 0, none⟩) → W.heap.size ≤ b → BoxC X b zs → F4 (t c) lo hi X → W.heap.size ≤ lo → (b < lo ∨ hi ≤ b) → (∀ Y, Fin (t c) (t al) Y → Below W.heap.size W Y → K ⟨mk t, []⟩ Y) → wpOp P ops Q n K ⟨mk t, []⟩ X)
    (hfin : ∀ t X, Fin (t c) (t al) X → Below W.heap.size W X → Q .normal ⟨mk t, []⟩ X) : (Code.region id ops true).wp P Q a0 W := by
  refine wp_region_inv hm (RN n c al mk W G F4 zs Fin) ?_ ?_ ?_ ?_
  · have hz : ∀ i, (Array.replicate ops.size false).getD i false = false := fun i => by simp [Array.getD]
    refine ⟨fun _ => undef, h0, by simp [hn], (Below.refl _ _).drew, fun h => ?_, fun _ => ⟨fun i _ _ _ h => ?_, fun h => ?_, fun h => ?_⟩⟩ <;> (rw [hz] at h; cases h)
  · rintro l a X ⟨t, _, hs, _⟩
    rw [hs, hn]
  · rintro l a X ⟨t, rfl, hs, hb, h6, _⟩ hr
    have AL := all_listed hord (by rw [hs, hn]) hr
    exact hfin t X (h6 (AL n (by omega))).2 hb
  · rintro l a X i ⟨t, rfl, hs, hb, h6, hg⟩ hr
    obtain ⟨di, d6⟩ := hd l i hr
    obtain ⟨hu, o, ho, _⟩ := mem_ready.1 hr
    have hi7 : i < n + 1 := by
      rcases Nat.lt_or_ge i (n + 1) with h | h
      · exact h
      · rw [Array.getElem?_eq_none (by omega)] at ho
        cases ho
    have hui : l.getD i false = false := by
      have : l.getD i true = false := hu
      simpa [Array.getD, hs, hi7] using this
    have l6 : l.getD n false = false := by
      cases h : l.getD n false with
      | false => rfl
      | true => rw [(h6 h).1 i hi7] at hui; cases hui
    obtain ⟨gg, g4, g5⟩ := hg l6
    have kp : ∀ j, ¬ j = i → (l.setIfInBounds i true).getD j false = l.getD j false := fun j hj => by rw [getD_set (by omega), if_neg hj]
    have ki : (l.setIfInBounds i true).getD i false = true := by rw [getD_set (by omega), if_pos rfl]
    have hs' : (l.setIfInBounds i true).size = n + 1 := by simp [hs]
    have dg : ∀ j, dep i j → G j (t j) X := fun j hj => gg j (hdep i j hj).1 (hdep i j hj).2.1 (hdep i j hj).2.2 (di j hj)
    clear hr hu ho h6 hg
    by_cases hin : i = n
    · subst hin
      have a4 := d6 rfl c hc
      have a5 := d6 rfl al ha
      obtain ⟨lo, hi, e1, e2, e3⟩ := g4 a4
      obtain ⟨b, f1, f2⟩ := e3 a5
      obtain ⟨b', f3, f4, f5⟩ := g5 a5
      obtain rfl : b' = b := by rw [f1] at f3; cases f3; rfl
      refine ss t X _ b' lo hi hb f1 f4 f5 e2 e1 f2 (fun Y hY hbY => ⟨t, rfl, hs', hbY, fun _ => ⟨fun j hj => ?_, hY⟩, fun h => ?_⟩)
      · by_cases e : j = i
        · subst e; exact ki
        · rw [kp j e]; exact d6 rfl j (by omega)
      · rw [ki] at h; cases h
    have hno : (l.setIfInBounds i true).getD n false = false := by rw [kp n (fun e => hin e.symm)]; exact l6
    by_cases hic : i = c
    · subst hic
      refine sc t X _ hb dg (fun v Y hv hY => ⟨updT t i v, rfl, hs', hb.trans (hY.mono hb.size), fun h => ?_, fun _ => ⟨fun j j1 j2 j3 h => ?_, fun _ => ?_, fun h => ?_⟩⟩)
      · rw [hno] at h; cases h
      · rw [kp j j2] at h; rw [updT_ne j2]; exact st _ _ _ _ (gg j j1 j2 j3 h) hY
      · rw [updT_same]
        refine ⟨X.heap.size, Y.heap.size, hb.size, hv, fun h => ?_⟩
        rw [kp al (fun e => hca e.symm)] at h
        rw [updT_ne (fun e => hca e.symm)]
        obtain ⟨b, e1, e2, e3⟩ := g5 h
        exact ⟨b, e1, Or.inl e3.lt⟩
      · rw [kp al (fun e => hca e.symm)] at h
        rw [updT_ne (fun e => hca e.symm)]
        obtain ⟨b, e1, e2, e3⟩ := g5 h
        exact ⟨b, e1, e2, e3.below hY⟩
    by_cases hia : i = al
    · subst hia
      have hY := below_alloc X (.cells zs T)
      refine sa t X _ ⟨updT t i _, rfl, hs', hb.alloc hb.size _, fun h => ?_, fun _ => ⟨fun j j1 j2 j3 h => ?_, fun h => ?_, fun _ => ?_⟩⟩
      · rw [hno] at h; cases h
      · rw [kp j j3] at h; rw [updT_ne j3]; exact st _ _ _ _ (gg j j1 j2 j3 h) hY
      · rw [kp c hca] at h
        rw [updT_ne hca, updT_same]
        obtain ⟨lo, hi, e1, e2, e3⟩ := g4 h
        exact ⟨lo, hi, e1, st4 _ _ _ _ _ e2 hY, fun _ => ⟨X.heap.size, rfl, Or.inr (hi4 _ _ _ _ e2)⟩⟩
      · rw [updT_same]
        exact ⟨X.heap.size, rfl, hb.size, boxC_new (Below.refl _ _)⟩
    refine sg i (by omega) hic hia t X _ hb dg (fun v Y hv hY => ⟨updT t i v, rfl, hs', hb.trans (hY.mono hb.size), fun h => ?_, fun _ => ⟨fun j j1 j2 j3 h => ?_, fun h => ?_, fun h => ?_⟩⟩)
    · rw [hno] at h; cases h
    · by_cases e : j = i
      · subst e; rw [updT_same]; exact hv
      · rw [kp j e] at h; rw [updT_ne e]; exact st _ _ _ _ (gg j j1 j2 j3 h) hY
    · rw [kp c (fun e => hic e.symm)] at h
      rw [updT_ne (fun e => hic e.symm), updT_ne (fun e => hia e.symm), kp al (fun e => hia e.symm)]
      obtain ⟨lo, hi, e1, e2, e3⟩ := g4 h
      exact ⟨lo, hi, e1, st4 _ _ _ _ _ e2 hY, e3⟩
    · rw [kp al (fun e => hia e.symm)] at h
      rw [updT_ne (fun e => hia e.symm)]
      obtain ⟨b, e1, e2, e3⟩ := g5 h
      exact ⟨b, e1, e2, e3.below hY⟩
/-- a drawn region that holds what was handed in against a copy of it -/
def R5 (mk : (Nat → Value) → Array Value) (W : World) (v0 v1 : Value) (F2 : Value → World → Prop) (l : Array Bool) (a : Act) (X : World) : Prop :=
  ∃ t : Nat → Value, a = ⟨mk t, []⟩ ∧ l.size = 5 ∧ Below W.heap.size W X ∧ (l.getD 0 false = true → t 0 = v0) ∧ (l.getD 1 false = true → t 1 = v1) ∧ (l.getD 2 false = true → F2 (t 2) X) ∧ (l.getD 3 false = true → t 3 = .bool true) ∧ (l.getD 4 false = true → t 4 = .bool false)
theorem region5 {P : Program} {id : Nat} {ops : Array Oper} {Q : Exit → Act → World → Prop} {a0 : Act} {W : World} (hm : P.follows .mixedOrders = true)
    (mk : (Nat → Value) → Array Value) (v0 v1 : Value) (F2 : Value → World → Prop)
    (hn : ops.size = 5) (hord : ((List.range ops.size).all fun i => match ops[i]? with | some o => o.after.all (fun e => decide (e.on < i)) | none => true) = true)
    (hd : ∀ l i, i ∈ Region.ready .any ops l → (i = 2 → l.getD 1 false = true) ∧ (i = 3 → l.getD 0 false = true ∧ l.getD 2 false = true) ∧ (i = 4 → l.getD 3 false = true))
    (st2 : ∀ v X Y, F2 v X → Below X.heap.size X Y → F2 v Y)
    (h0 : a0 = ⟨mk (fun _ => undef), []⟩)
    (s0 : ∀ t X K, Below W.heap.size W X → K ⟨mk (updT t 0 v0), []⟩ X → wpOp P ops Q 0 K ⟨mk t, []⟩ X)
    (s1 : ∀ t X K, Below W.heap.size W X → K ⟨mk (updT t 1 v1), []⟩ X → wpOp P ops Q 1 K ⟨mk t, []⟩ X)
    (s2 : ∀ t X K, Below W.heap.size W X → t 1 = v1 → (∀ v Y, F2 v Y → Below X.heap.size X Y → K ⟨mk (updT t 2 v), []⟩ Y) → wpOp P ops Q 2 K ⟨mk t, []⟩ X)
    (s3 : ∀ t X K, Below W.heap.size W X → t 0 = v0 → F2 (t 2) X → (∀ Y, Below X.heap.size X Y → K ⟨mk (updT t 3 (.bool true)), []⟩ Y) → wpOp P ops Q 3 K ⟨mk t, []⟩ X)
    (s4 : ∀ t X K, t 3 = .bool true → K ⟨mk (updT t 4 (.bool false)), []⟩ X → wpOp P ops Q 4 K ⟨mk t, []⟩ X)
    (hfin : ∀ t X, t 4 = .bool false → Below W.heap.size W X → Q .normal ⟨mk t, []⟩ X) : (Code.region id ops true).wp P Q a0 W := by
  refine wp_region_inv hm (R5 mk W v0 v1 F2) ?_ ?_ ?_ ?_
  · refine ⟨fun _ => undef, h0, by simp [hn], (Below.refl _ _).drew, fun h => ?_, fun h => ?_, fun h => ?_, fun h => ?_, fun h => ?_⟩ <;> (rw [hn] at h; simp at h)
  · rintro l a X ⟨t, _, hs, _⟩
    rw [hs, hn]
  · rintro l a X ⟨t, rfl, hs, hb, _, _, _, _, g4⟩ hr
    have AL := all_listed hord (by rw [hs, hn]) hr
    exact hfin t X (g4 (AL 4 (by omega))) hb
  · rintro l a X i ⟨t, rfl, hs, hb, g0, g1, g2, g3, g4⟩ hr
    obtain ⟨d2, d3, d4⟩ := hd l i hr
    obtain ⟨hu, o, ho, _⟩ := mem_ready.1 hr
    have hi5 : i < 5 := by
      rcases Nat.lt_or_ge i 5 with h | h
      · exact h
      · rw [Array.getElem?_eq_none (by omega)] at ho
        cases ho
    have kp : ∀ j, ¬ j = i → (l.setIfInBounds i true).getD j false = l.getD j false := fun j hj => by rw [getD_set (by omega), if_neg hj]
    have hs' : (l.setIfInBounds i true).size = 5 := by simp [hs]
    clear hr hu ho
    rcases (show i = 0 ∨ i = 1 ∨ i = 2 ∨ i = 3 ∨ i = 4 by omega) with rfl | rfl | rfl | rfl | rfl
    · refine s0 t X _ hb ⟨updT t 0 v0, rfl, hs', hb, fun _ => rfl, fun h => ?_, fun h => ?_, fun h => ?_, fun h => ?_⟩
      · rw [kp 1 (by decide)] at h; exact g1 h
      · rw [kp 2 (by decide)] at h; exact g2 h
      · rw [kp 3 (by decide)] at h; exact g3 h
      · rw [kp 4 (by decide)] at h; exact g4 h
    · refine s1 t X _ hb ⟨updT t 1 v1, rfl, hs', hb, fun h => ?_, fun _ => rfl, fun h => ?_, fun h => ?_, fun h => ?_⟩
      · rw [kp 0 (by decide)] at h; exact g0 h
      · rw [kp 2 (by decide)] at h; exact g2 h
      · rw [kp 3 (by decide)] at h; exact g3 h
      · rw [kp 4 (by decide)] at h; exact g4 h
    · refine s2 t X _ hb (g1 (d2 rfl)) (fun v Y hv hY => ⟨updT t 2 v, rfl, hs', hb.trans (hY.mono hb.size), fun h => ?_, fun h => ?_, fun _ => hv, fun h => ?_, fun h => ?_⟩)
      · rw [kp 0 (by decide)] at h; exact g0 h
      · rw [kp 1 (by decide)] at h; exact g1 h
      · rw [kp 3 (by decide)] at h; exact g3 h
      · rw [kp 4 (by decide)] at h; exact g4 h
    · refine s3 t X _ hb (g0 (d3 rfl).1) (g2 (d3 rfl).2) (fun Y hY => ⟨updT t 3 _, rfl, hs', hb.trans (hY.mono hb.size), fun h => ?_, fun h => ?_, fun h => ?_, fun _ => rfl, fun h => ?_⟩)
      · rw [kp 0 (by decide)] at h; exact g0 h
      · rw [kp 1 (by decide)] at h; exact g1 h
      · rw [kp 2 (by decide)] at h; exact st2 _ _ _ (g2 h) hY
      · rw [kp 4 (by decide)] at h; exact g4 h
    · refine s4 t X _ (g3 (d4 rfl)) ⟨updT t 4 _, rfl, hs', hb, fun h => ?_, fun h => ?_, fun h => ?_, fun h => ?_, fun _ => rfl⟩
      · rw [kp 0 (by decide)] at h; exact g0 h
      · rw [kp 1 (by decide)] at h; exact g1 h
      · rw [kp 2 (by decide)] at h; exact g2 h
      · rw [kp 3 (by decide)] at h; exact g3 h
end Go.Proofs.Ytkecnaaacbckoaa
