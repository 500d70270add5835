import Derived.Test.YtkcgfjnmkbbnoaaCd
namespace Go.Proofs.Ytkcgfjnmkbbnoaa
open Go.RowKit
theorem Bx.new (w : World) (c : Array Value) (t : TypeId) : Bx (w.alloc (.cells c t)) w.heap.size c := ⟨holds_new w c t, fun i => World.frozen?_alloc_at _ _ _ _ rfl, by simp⟩
theorem Bx.new2 (w : World) (c d : Array Value) (t t2 : TypeId) : Bx ((w.alloc (.cells c t)).alloc (.cells d t2)) w.heap.size c ∧ Bx ((w.alloc (.cells c t)).alloc (.cells d t2)) (w.heap.size + 1) d :=
  ⟨(Bx.new w c t).below (below_alloc _ _) (by simp), by have := Bx.new (w.alloc (.cells c t)) d t2; rw [World.size_alloc] at this; exact this⟩
theorem wpList_store_box {P : Program} {ops : Array Oper} {rest : List Oper} {op : Oper} {a : Act} {w : World} {Q : Exit → Act → World → Prop} (hgd : op.guard = none) (ty : TypeId) (x y : Operand) (ho : op.op = .store ty x y)
    (b : Nat) (cs : List Value) (hx : a.eval x = .pointer (some ⟨b, 0, none⟩)) (hy : a.eval y = .agg cs.toArray) {c : Array Value}
    (hb : Bx w b c) (hsz : c.size = cs.length) (hi : (P.info? ty).map (·.size) = some cs.length) (h1 : ∀ v ∈ cs, v.oneCell' = true)
    (h : ∀ W2 : World, Bx W2 b cs.toArray → Fr b (b + 1) w W2 → W2.heap.size = w.heap.size → wpList P ops Q rest (a.put op.dst undef) W2) : wpList P ops Q (op :: rest) a w := by
  have ht : w.there b 0 cs.length := hsz ▸ hb.there
  refine wpList_store_mid hgd ty x y ho b 0 cs.toArray hx hy (by simpa using ht) (by simpa using hi) (all_oneCell_toArray h1) (h _ ⟨fun i => ?_, fun i => ?_, ?_⟩ (fr_setCells _ _ _ _) (size_setCells _ _ _ _))
  · rcases Nat.lt_or_ge i cs.length with hl | hl
    · have := World.rangeAt_setCells_same w b 0 cs ht i cs[i] (List.getElem?_eq_getElem hl)
      rw [Nat.zero_add] at this
      rw [List.getElem?_toArray, List.getElem?_eq_getElem hl]
      exact this
    · rw [World.cell?_setCells_out b cs 0 w ⟨b, i, none⟩ (fun _ _ => Or.inr (by show 0 + cs.length ≤ i; omega)), hb.cell i, Array.getElem?_eq_none (by omega), List.getElem?_toArray, List.getElem?_eq_none (by omega)]
  · rw [World.frozen?_setCells]; exact hb.free i
  · rw [size_setCells]; exact hb.lt
abbrev pN : RcP := ⟨rcA0, 0, 0, 0, 0, 0, 0, 0, fun _ => none, fun _ => 0, fun _ => 0, fun _ => none, fun _ => 0, fun _ => 0⟩
theorem rb_none (n o : Int) (u : Bool) (j k : Nat) : ¬ rb pN (rc0 n o u) j k := by
  unfold rb
  split
  · exact fun h => h.1 rfl
  · exact fun h => h.1 rfl
  · rintro (⟨h, _⟩ | ⟨i, h, _⟩) <;> exact absurd h (Nat.not_lt_zero _)
  · exact fun h => h.1 rfl
  · exact fun h => h.1 rfl
  · exact fun h => h.1 rfl
  · rintro (⟨h, _⟩ | ⟨i, h, _⟩) <;> exact absurd h (Nat.not_lt_zero _)
theorem RcAt.none (w : World) (n o : Int) (u : Bool) : RcAt w (rc0 n o u) pN :=
  ⟨⟨fun h => absurd h (Nat.lt_irrefl _), fun h => absurd h (Nat.lt_irrefl _)⟩, ⟨fun h => absurd h (Nat.lt_irrefl _), fun h => absurd h (Nat.lt_irrefl _)⟩, ⟨fun h => absurd h (Nat.lt_irrefl _), fun h => absurd h (Nat.lt_irrefl _), fun _i hi => absurd hi (Nat.not_lt_zero _), fun _i hi => absurd hi (Nat.not_lt_zero _), ⟨fun _i hi => absurd hi (Nat.not_lt_zero _), fun _i _j hi => absurd hi (Nat.not_lt_zero _)⟩⟩, fun _i hi => absurd hi (Nat.not_lt_zero _), fun _i hi => absurd hi (Nat.not_lt_zero _), ⟨fun h => absurd h (Nat.lt_irrefl _), fun h => absurd h (Nat.lt_irrefl _)⟩, ⟨fun h => absurd h (Nat.lt_irrefl _), fun h => absurd h (Nat.lt_irrefl _), fun _i hi => absurd hi (Nat.not_lt_zero _), fun _i hi => absurd hi (Nat.not_lt_zero _), ⟨fun _i hi => absurd hi (Nat.not_lt_zero _), fun _i _j hi => absurd hi (Nat.not_lt_zero _)⟩⟩,
   fun k ⟨j, _, hk⟩ => absurd hk (rb_none n o u j k), fun i _j k _ _ h => absurd h (rb_none n o u i k)⟩
end Go.Proofs.Ytkcgfjnmkbbnoaa
