import Derived.Test.YtkfbclopkgnacaaGreatDoorJq
namespace Go.Proofs.YtkfbclopkgnacaaGreatDoor
open Go.RowKit Go.Shelf
/-- a drawn region whose last three operations come behind all others, which leave alone what is there -/
theorem regionQ {P : Program} {id : Nat} {ops : Array Oper} {Q : Exit → Act → World → Prop} {a0 : Act} {W : World} (hm : P.follows .mixedOrders = true) (n : Nat)
    (mk : (Nat → Value) → Array Value) (t0 : Nat → Value) (G : Nat → Value → World → Prop) (Fin1 Fin2 Fin : Act → World → Prop)
    (hn : ops.size = n + 3) (hord : ((List.range ops.size).all fun i => match ops[i]? with | some o => o.after.all (fun e => decide (e.on < i)) | none => true) = true)
    (hlast : ((List.range (n + 2)).all fun j => match ops[n + 2]? with | some o => o.after.any (fun e => Region.binds .any e && e.on == j) | none => false) = true)
    (hlast2 : ((List.range (n + 1)).all fun j => match ops[n + 1]? with | some o => o.after.any (fun e => Region.binds .any e && e.on == j) | none => false) = true)
    (hanc : ((List.range n).all fun j => (List.range (n + 1)).any fun k => match ops[k]? with | some o => decide (j < k) && o.after.any (fun e => Region.binds .any e && e.on == j) | none => false) = true)
    (st : ∀ i v X Y, i < n → G i v X → Below X.heap.size X Y → G i v Y)
    (h0 : a0 = ⟨mk t0, []⟩)
    (sg : ∀ i, i < n → ∀ (t : Nat → Value) X K, Below W.heap.size W X → (∀ j, Waits ops i j → G j (t j) X) → (∀ v Y, G i v Y → Below X.heap.size X Y → K ⟨mk (updT t i v), []⟩ Y) → wpOp P ops Q i K ⟨mk t, []⟩ X)
    (s1 : ∀ (t : Nat → Value) X K, Below W.heap.size W X → (∀ j, j < n → G j (t j) X) → (∀ a Y, Fin1 a Y → K a Y) → wpOp P ops Q n K ⟨mk t, []⟩ X)
    (s2 : ∀ a X K, Fin1 a X → (∀ a Y, Fin2 a Y → K a Y) → wpOp P ops Q (n + 1) K a X)
    (s3 : ∀ a X K, Fin2 a X → (∀ a Y, Fin a Y → K a Y) → wpOp P ops Q (n + 2) K a X)
    (hfin : ∀ a X, Fin a X → Q .normal a X) : (Code.region id ops true).wp P Q a0 W := by
  have hdep : ∀ i j, i < n → Waits ops i j → j < n := by
    rintro i j hi ⟨o, ho, e, he, _, rfl⟩
    have h1 := List.all_eq_true.1 hord i (List.mem_range.2 (by omega))
    rw [ho] at h1
    have := of_decide_eq_true (Array.all_eq_true_iff_forall_mem.1 h1 e he)
    omega
  refine regionP hm n mk t0 (fun f t X => Below W.heap.size W X ∧ ∀ i, i < n → f i = true → G i (t i) X) Fin1 Fin2 Fin hn hord (Or.inl hlast) hlast2 hanc h0 ?_ ?_ ?_ s2 s3 hfin
  · exact fun f hf => ⟨⟨rfl, rfl, rfl, Nat.le_refl _, fun _ _ => rfl⟩, fun i _ h => by rw [hf] at h; cases h⟩
  · intro i hi f t X K ⟨hb, hG⟩ hfi hw hK
    refine sg i hi t X K hb (fun j hj => hG j (hdep i j hi hj) (hw j hj)) (fun v Y hv hY => hK v Y (fun g hg hk => ⟨hb.trans (hY.mono hb.size), fun j hj h => ?_⟩))
    by_cases e : j = i
    · subst e; rw [updT_same]; exact hv
    · rw [updT_ne e]; exact st _ _ _ _ hj (hG j hj (by rw [← hk j e]; exact h)) hY
  · intro f t X K ⟨hb, hG⟩ hall hK
    exact s1 t X K hb (fun j hj => hG j hj (hall j hj)) hK
/-- where spec's reading of lines stands in memory -/
structure SpS (w W1 W : World) (x : Bk) (v1 v2 v3 : Value) : Prop where
  bk : W.rangeAt (w.heap.size + 1) 0 [.int .i64 x.now, .int .i64 x.floor, v1, v2, v3]
  bt : W.there (w.heap.size + 1) 0 5
  bd : BdE W W1.heap.size x v1 v2 v3
  fr : Fr (w.heap.size + 1) (w.heap.size + 1 + 1) W1 W
  sz : w.heap.size + 2 ≤ W1.heap.size
theorem SpS.below {w W1 W X : World} {x : Bk} {v1 v2 v3 : Value} (h : SpS w W1 W x v1 v2 v3) (hf : Below W.heap.size W X) : SpS w W1 X x v1 v2 v3 := by
  have hz := h.sz
  have hz2 := h.fr.size
  obtain ⟨A1, C1, h1, A2, C2, h2, hB⟩ := h.bd
  exact ⟨range_below h.bk hf (by omega), there_below h.bt hf (by omega), ⟨A1, C1, h1, A2, C2, h2, hB.fr (FrP.of_below (P := fun _ => False) hf) (fun _ _ h => h)⟩, h.fr.trans (Fr.of_below hf), hz⟩
theorem SpS.grown {w W1 Y w6 : World} {x x' : Bk} {v1 v2 v3 v1' v2' v3' : Value} {ow : Option Nat} (S : SpS w W1 Y x v1 v2 v3) (g6 : Y.grownBy w6 ow) (ho : ∀ g, ow = some g → W1.heap.size ≤ g) (k : Nat) (hk : k < 5) (u : Value)
    (hl : [.int .i64 x.now, .int .i64 x.floor, v1, v2, v3].set k u = [.int .i64 x'.now, .int .i64 x'.floor, v1', v2', v3']) (bd : BdE w6 W1.heap.size x' v1' v2' v3') : SpS w W1 (w6.setCell ⟨w.heap.size + 1, k, none⟩ u) x' v1' v2' v3' := by
  have F := FrP.of_grown g6
  have hz := S.sz
  have hz2 := S.fr.size
  have np : ∀ b, b < W1.heap.size → ¬ (ow = some b) := fun b hb e => by have := ho b e; omega
  have hc : ∀ b o, b < W1.heap.size → w6.cell? ⟨b, o, none⟩ = Y.cell? ⟨b, o, none⟩ := fun b o hb => F.cell (p := ⟨b, o, none⟩) (show b < Y.heap.size by omega) (np b hb)
  have hf : ∀ b o, b < W1.heap.size → w6.frozen? ⟨b, o, none⟩ = Y.frozen? ⟨b, o, none⟩ := fun b o hb => F.frozen (p := ⟨b, o, none⟩) (show b < Y.heap.size by omega) (np b hb)
  have ht : w6.there (w.heap.size + 1) 0 5 := fun j hj => ⟨by rw [hc _ _ (by omega)]; exact (S.bt j hj).1, by rw [hf _ _ (by omega)]; exact (S.bt j hj).2⟩
  have hr : w6.rangeAt (w.heap.size + 1) 0 [.int .i64 x.now, .int .i64 x.floor, v1, v2, v3] := fun j v hv => by rw [hc _ _ (by omega)]; exact S.bk j v hv
  have hF2 : Fr (w.heap.size + 1) (w.heap.size + 1 + 1) w6 (w6.setCell ⟨w.heap.size + 1, k, none⟩ u) := (Fr.refl _ _ _).setCell (p := ⟨w.heap.size + 1, k, none⟩) (Nat.le_refl _) (Nat.lt_succ_self _) u
  have hF1 : Fr (w.heap.size + 1) (w.heap.size + 1 + 1) W1 w6 := ⟨F.os.trans S.fr.os, F.tape.trans S.fr.tape, F.output.trans S.fr.output, Nat.le_trans S.fr.size F.size, fun i hi ho => (F.block i (by omega) (np i hi)).trans (S.fr.block i hi ho)⟩
  refine ⟨?_, there_set ht, bd.frR hF2 (by omega), hF1.trans hF2, hz⟩
  have := range_set5 hr k hk u
  rw [hl] at this
  exact this
theorem SpS.addO {w W1 W X w6 : World} {x : Bk} {v1 v2 v3 v6 : Value} {A1 : Nat → Option Addr} {C1 h1 : Nat → Nat} {A2 : Nat → Option Addr} {C2 h2 : Nat → Nat} {c : Nat → Value} {o : Ob} {ad : Option Addr} {cap b' : Nat}
    (S : SpS w W1 W x v1 v2 v3) (hB : BdB W W1.heap.size x v1 v2 v3 A1 C1 h1 A2 C2 h2) (hat : ∀ i, i < x.on → atOb c i (x.os i) (A1 i) (C1 i)) (hb : Below W.heap.size W X) (hs : StrsOwn X b' (b' + 1) ad o.hn o.hs) (hl : o.hn ≠ 0 → W.heap.size ≤ b' ∧ b' < X.heap.size)
    (own6 : w6.ownsRow W1.heap.size 38 7 v6 (x.on + 1) (rowCells (x.on * 7) c ++ [.string o.kind, .string o.name, .int .i64 o.ver, .int .i64 o.born, .string o.text, .bool o.ending, .slice ad o.hn cap])) (g6 : X.grownBy w6 v1.ownBlock) (at6 : v6.ownBlock = v1.ownBlock ∨ v6.ownBlock = some X.heap.size) :
    SpS w W1 (w6.setCell ⟨w.heap.size + 1, 2, none⟩ v6) { x with on := x.on + 1, os := updF x.os x.on o } v6 v2 v3 :=
  (S.below hb).grown g6 (fun g hg => (hB.o.own (Or.inl hg)).1) 2 (by omega) v6 rfl ⟨_, _, _, A2, C2, h2, BdB.addO hB (FrP.of_below (P := fun _ => False) hb) (fun _ _ h => h) S.fr.size hs hl hat own6 g6 at6⟩
theorem SpS.addC {w W1 W X w6 : World} {x : Bk} {v1 v2 v3 v6 : Value} {A1 : Nat → Option Addr} {C1 h1 : Nat → Nat} {A2 : Nat → Option Addr} {C2 h2 : Nat → Nat} {c : Nat → Value} {o : Ch} {ad : Option Addr} {cap b' : Nat} {W0 : World}
    (S : SpS w W1 W x v1 v2 v3) (hB : BdB W0 W1.heap.size x v1 v2 v3 A1 C1 h1 A2 C2 h2) (hz0 : W1.heap.size ≤ W0.heap.size) (hat : ∀ i, i < x.hn → atCh c i (x.hs i) (A2 i) (C2 i)) (hb0 : Below W0.heap.size W0 X) (hb : Below W.heap.size W X) (hs : StrsOwn X b' (b' + 1) ad o.ob.hn o.ob.hs) (hl : o.ob.hn ≠ 0 → W0.heap.size ≤ b' ∧ b' < X.heap.size)
    (own6 : w6.ownsRow W1.heap.size 41 9 v6 (x.hn + 1) (rowCells (x.hn * 9) c ++ [.int .i64 o.ver, .bool o.gone, .string o.ob.kind, .string o.ob.name, .int .i64 o.ob.ver, .int .i64 o.ob.born, .string o.ob.text, .bool o.ob.ending, .slice ad o.ob.hn cap])) (g6 : X.grownBy w6 v2.ownBlock) (at6 : v6.ownBlock = v2.ownBlock ∨ v6.ownBlock = some X.heap.size) :
    SpS w W1 (w6.setCell ⟨w.heap.size + 1, 3, none⟩ v6) { x with hn := x.hn + 1, hs := updF x.hs x.hn o } v1 v6 v3 :=
  (S.below hb).grown g6 (fun g hg => (hB.h.own (Or.inl hg)).1) 3 (by omega) v6 rfl ⟨A1, C1, h1, _, _, _, BdB.addC hB (FrP.of_below (P := fun _ => False) hb0) (fun _ _ h => h) hz0 hs hl hat own6 g6 at6⟩
theorem SpS.addT {w W1 W X w6 : World} {x : Bk} {v1 v2 v3 v6 : Value} {A1 : Nat → Option Addr} {C1 h1 : Nat → Nat} {A2 : Nat → Option Addr} {C2 h2 : Nat → Nat} {c : Nat → Value} {o : Ti}
    (S : SpS w W1 W x v1 v2 v3) (hB : BdB W W1.heap.size x v1 v2 v3 A1 C1 h1 A2 C2 h2) (hat : ∀ i, i < x.tn → atTi c i (x.ts i)) (hb : Below W.heap.size W X)
    (own6 : w6.ownsRow W1.heap.size 45 5 v6 (x.tn + 1) (rowCells (x.tn * 5) c ++ [.string o.client, .int .i64 o.num, .string o.print, .int .i64 o.code, .int .i64 o.ver])) (g6 : X.grownBy w6 v3.ownBlock) (at6 : v6.ownBlock = v3.ownBlock ∨ v6.ownBlock = some X.heap.size) :
    SpS w W1 (w6.setCell ⟨w.heap.size + 1, 4, none⟩ v6) { x with tn := x.tn + 1, ts := updF x.ts x.tn o } v1 v2 v6 :=
  (S.below hb).grown g6 (fun g hg => (hB.t.own hg).1) 4 (by omega) v6 rfl ⟨A1, C1, h1, A2, C2, h2, BdB.addT hB (FrP.of_below (P := fun _ => False) hb) (fun _ _ h => h) hat own6 g6 at6⟩
theorem cell_grown2 {W1 Y w6 : World} {ow : Option Nat} (g6 : Y.grownBy w6 ow) (ho : ∀ g, ow = some g → W1.heap.size ≤ g) {b : Nat} (hb : b < W1.heap.size) (hz : W1.heap.size ≤ Y.heap.size) {o : Nat} {u : Value} (hc : Y.cell? ⟨b, o, none⟩ = some u) (hf : Y.frozen? ⟨b, o, none⟩ = false) : w6.cell? ⟨b, o, none⟩ = some u ∧ w6.frozen? ⟨b, o, none⟩ = false := by
  have F := FrP.of_grown g6
  have np : ¬ (ow = some b) := fun e => by have := ho _ e; omega
  exact ⟨(F.cell (p := ⟨b, o, none⟩) (show b < Y.heap.size by omega) np).trans hc, (F.frozen (p := ⟨b, o, none⟩) (show b < Y.heap.size by omega) np).trans hf⟩
end Go.Proofs.YtkfbclopkgnacaaGreatDoor
