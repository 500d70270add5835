import Derived.RangeFuncNested
import Derived.Test.YtkecnaaacbckoaaGreatLi
import Derived.Test.YtkecnaaacbckoaaGreatHc
import Derived.Test.YtkecnaaacbckoaaGreatCc
namespace Go.Proofs.YtkecnaaacbckoaaGreat
open Go.RowKit
theorem keepsFrom_higher {B B' : Nat} {X Y : World} (h : KeepsFrom B X Y) (hb : B ≤ B') : KeepsFrom B' X Y := ⟨h.size, fun k o hk => h.same k o (Nat.le_trans hb hk)⟩
theorem keepsFrom_put {B l : Nat} {W : World} {o : Obj} (hl : l < B) : KeepsFrom B W (W.putObj l o) :=
  ⟨by simp, fun k o' hk h0 _ => (World.putObj_heap_other (by omega)).trans h0⟩
/-- what an iterator promises whose own walk is a range over a function: it asks of the caller's words that they abide records that are newer than they are, and of a round that it leaves such records alone -/
def SeqO {α : Type} (F : Fence) (n : Nat) (P : Program) (g : Nat) (lb : Array Value) (encs : α → Array Value) (Kp : World → World → Prop) (S Sp : List α → Prop) (N : Nat) (w : World) : Prop :=
  ∀ (l : Nat) (J Jx : List α → World → Prop) (W : World), Below w.heap.size w W → OwnFrom W.heap.size J → OwnFrom W.heap.size Jx →
    (∀ pre x W1, J pre W1 → pre.length < N → YieldAt F (n - 1) P l (encs x) W1 fun e W' =>
      (e = .returned (.bool true) ∧ J (pre ++ [x]) W' ∧ Kp W1 W' ∧ KeepsFrom W.heap.size W1 W') ∨ (e = .returned (.bool false) ∧ Jx (pre ++ [x]) W' ∧ KeepsFrom W.heap.size W1 W')) →
    J [] W → CallsIn F n P g (#[.func (.yield l) #[] #[]] ++ lb) W fun e W' => (∃ v, e = .returned v) ∧ ((∃ xs, S xs ∧ J xs W') ∨ (∃ pre, Sp pre ∧ Jx pre W'))
/-- a loop's two blocks: the calls that are put off, and its record in a state -/
structure LoopAt (W : World) (b : Nat) (r : Loop) : Prop where
  rcd : W.heap[b + 1]? = some (.loop r)
  off : W.heap[b]? = some (.deferred (some []))
theorem LoopAt.kept {W W' : World} {b : Nat} {r : Loop} (h : LoopAt W b r) (hk : KeepsFrom b W W') : LoopAt W' b r := ⟨hk.same _ _ (by omega) h.rcd rfl, hk.same _ _ (Nat.le_refl _) h.off rfl⟩
theorem LoopAt.put {W : World} {b : Nat} {r : Loop} (h : LoopAt W b r) (r' : Loop) : LoopAt (W.putObj (b + 1) (.loop r')) b r' :=
  ⟨World.putObj_heap_same (Array.getElem?_eq_some_iff.1 h.rcd).1, (World.putObj_heap_other (by omega)).trans h.off⟩
theorem LoopAt.own {b B : Nat} (r : Loop) (hB : b + 2 ≤ B) {W W' : World} {row : Option Nat} (h : LoopAt W b r) (hg : W.grownBy W' row) (hr : ∀ q, row = some q → B ≤ q) : LoopAt W' b r :=
  ⟨(hg.block _ (Array.getElem?_eq_some_iff.1 h.rcd).1 (fun e => by have := hr _ e.symm; omega)).trans h.rcd, (hg.block _ (Array.getElem?_eq_some_iff.1 h.off).1 (fun e => by have := hr _ e.symm; omega)).trans h.off⟩
section
variable {F : Fence} {n : Nat} {P : Program} {α : Type} {w : World}
/-- one round of a loop, as the iterator's contract wants it -/
theorem roundO {l0 : Nat} {fn : FuncId} {tm : Array Value} {ps : Array Tmp} {assign body : Code} {encs : α → Array Value} {Kp : World → World → Prop} {I : List α → World → Prop} {Ix : Code → List α → World → Prop} {Ax : α → Act → World → Prop} {b : Nat} {r : Loop} (hfn : F.fn fn)
    (hr : r = { state := .ready, pending := none, fn := fn, tmps := tm, params := ps, assign := assign, body := body, defers := b }) (hl0 : l0 = b + 1)
    (hKt : ∀ {A B C : World}, Kp A B → Kp B C → Kp A C) (hKb : ∀ (W : World) (l : Nat) (o o' : Obj), b ≤ l → W.heap[l]? = some o → o.isCells = false → o.isWalk = false → Kp W (W.putObj l o')) (hps : ∀ x, (encs x).size = ps.size)
    (hI : OwnFrom b I) (hIx : ∀ c, OwnFrom b (Ix c)) (hAx : ∀ x a', OwnFrom b (fun (_ : Unit) W => Ax x a' W))
    (pre : List α) (x : α) (W : World) (hw : LoopAt W b r)
    (hassign : ∀ K : Act → World → Prop, (∀ a' W', KeepsFrom b W W' → Kp W W' → I pre W' → Ax x a' W' → K a' W') → assign.wpIn (F.inRound l0) n P (Exit.then K (fun _ _ _ => False)) { tmps := (ps.zip (encs x)).foldl (fun t (p, v) => t.setIfInBounds p v) tm, defers := [] } W)
    (hbody : ∀ a' V, (∃ q, V.heap[l0]? = some (.loop q)) → I pre V → Ax x a' V → body.wpIn (F.inRound l0) n P (ownPostG b Kp I Ix (pre ++ [x]) V) a' V) :
    YieldAt F n P l0 (encs x) W fun e W' => (e = .returned (.bool true) ∧ (I (pre ++ [x]) W' ∧ LoopAt W' b r) ∧ Kp W W' ∧ KeepsFrom (b + 2) W W') ∨
      (e = .returned (.bool false) ∧ (∃ c, Ix c (pre ++ [x]) W' ∧ LoopAt W' b { r with state := .done, pending := some c }) ∧ KeepsFrom (b + 2) W W') := by
  subst hl0
  subst hr
  have hy := run_yield (P := P) (args := encs x) hw.rcd (hps x)
  refine ⟨fn, _, assign, body, hy, roundIn_of_wpIn hfn ?_⟩
  refine hassign _ (fun a' V hkf hkp hiv hax => ?_)
  have hv := hw.kept hkf
  refine ⟨_, run_beginRound hv.rcd rfl, ?_⟩
  have hb := hv.put { ({ state := .ready, pending := none, fn := fn, tmps := tm, params := ps, assign := assign, body := body, defers := b } : Loop) with state := .busy }
  have kb : Kp V (V.putObj (b + 1) (.loop { ({ state := .ready, pending := none, fn := fn, tmps := tm, params := ps, assign := assign, body := body, defers := b } : Loop) with state := .busy })) := hKb _ _ _ _ (by omega) hv.rcd rfl rfl
  refine wpIn_mono (hbody a' _ ⟨_, hb.rcd⟩ (hI.putObj _ hiv (by omega) hv.rcd rfl) ((hAx x a').putObj (s := ()) _ hax (by omega) hv.rcd rfl)) ?_
  -- whichever way the body is left
  have leave : ∀ (j : Option Code) (U : World), KeepsFrom b (V.putObj (b + 1) (.loop { ({ state := .ready, pending := none, fn := fn, tmps := tm, params := ps, assign := assign, body := body, defers := b } : Loop) with state := .busy })) U →
      (Instr.endRound (b + 1) j).run P U = .ok (.bool j.isNone) (U.putObj (b + 1) (.loop { ({ state := .ready, pending := none, fn := fn, tmps := tm, params := ps, assign := assign, body := body, defers := b } : Loop) with state := if j.isNone then .ready else .done, pending := j })) ∧ U.heap[b + 1]? = some (.loop { ({ state := .ready, pending := none, fn := fn, tmps := tm, params := ps, assign := assign, body := body, defers := b } : Loop) with state := .busy }) ∧
      LoopAt (U.putObj (b + 1) (.loop { ({ state := .ready, pending := none, fn := fn, tmps := tm, params := ps, assign := assign, body := body, defers := b } : Loop) with state := if j.isNone then .ready else .done, pending := j })) b { ({ state := .ready, pending := none, fn := fn, tmps := tm, params := ps, assign := assign, body := body, defers := b } : Loop) with state := if j.isNone then .ready else .done, pending := j } ∧
      KeepsFrom (b + 2) W (U.putObj (b + 1) (.loop { ({ state := .ready, pending := none, fn := fn, tmps := tm, params := ps, assign := assign, body := body, defers := b } : Loop) with state := if j.isNone then .ready else .done, pending := j })) := fun j U hU => by
    have hu := hb.kept hU
    refine ⟨by simpa using run_endRound (P := P) j hu.rcd, hu.rcd, hu.put _, ?_⟩
    exact (keepsFrom_higher hkf (by omega)).trans ((keepsFrom_put (by omega)).trans ((keepsFrom_higher hU (by omega)).trans (keepsFrom_put (by omega))))
  rintro e a3 U hp
  cases e with
  | normal =>
    obtain ⟨h1, h2, h3⟩ := hp
    obtain ⟨g1, g2, g3, g4⟩ := leave none U h1
    exact ⟨_, _, g1, .inl ⟨rfl, ⟨hI.putObj _ h3 (by omega) g2 rfl, g3⟩, hKt hkp (hKt kb (hKt h2 (hKb _ _ _ _ (by omega) g2 rfl rfl))), g4⟩⟩
  | ret =>
    obtain ⟨h1, h3⟩ := hp
    obtain ⟨g1, g2, g3, g4⟩ := leave (some .ret) U h1
    exact ⟨_, _, g1, .inr ⟨rfl, ⟨.ret, (hIx _).putObj _ h3 (by omega) g2 rfl, g3⟩, g4⟩⟩
  | exit id =>
    obtain ⟨h1, h3⟩ := hp
    obtain ⟨g1, g2, g3, g4⟩ := leave (some (.exit id)) U h1
    exact ⟨_, _, g1, .inr ⟨rfl, ⟨.exit id, (hIx _).putObj _ h3 (by omega) g2 rfl, g3⟩, g4⟩⟩
  | goto t =>
    obtain ⟨h1, h3⟩ := hp
    obtain ⟨g1, g2, g3, g4⟩ := leave (some (.goto t)) U h1
    exact ⟨_, _, g1, .inr ⟨rfl, ⟨.goto t, (hIx _).putObj _ h3 (by omega) g2 rfl, g3⟩, g4⟩⟩
  | panic ch => exact hp.elim
  | outgrown => exact hp.elim
/-- a range over an iterator whose own walk is a range over a function -/
theorem wpIn_rangeO {g : Operand} {ps : Array Tmp} {assign body : Code} {Q : Exit → Act → World → Prop} {a : Act}
    (hro : F.round = none) (h1 : 1 ≤ n) {gf : Nat} {lb : Array Value} (hg : a.eval g = .func (.func gf) #[] lb) (hFg : F.fn gf) (eg : ∀ args w, (callFunc gf args).run P w = .ok (.enter gf args) w)
    {encs : α → Array Value} {Kp : World → World → Prop} {S Sp : List α → Prop} {N : Nat} (hseq : SeqO F (n - 1) P gf lb encs Kp S Sp N w)
    (hKt : ∀ {A B C : World}, Kp A B → Kp B C → Kp A C) (hKb : ∀ (W : World) (l : Nat) (o o' : Obj), w.heap.size ≤ l → W.heap[l]? = some o → o.isCells = false → o.isWalk = false → Kp W (W.putObj l o')) (hps : ∀ x, (encs x).size = ps.size)
    (I : List α → World → Prop) (Ix : Code → List α → World → Prop) (hI : OwnFrom w.heap.size I) (hIx : ∀ c, OwnFrom w.heap.size (Ix c)) (h0 : I [] w) (Ax : α → Act → World → Prop) (hAx : ∀ x a', OwnFrom w.heap.size (fun (_ : Unit) W => Ax x a' W))
    (hassign : ∀ (l : Nat) (pre : List α) (x : α) (W : World) (K : Act → World → Prop), I pre W → (∀ a' W', KeepsFrom w.heap.size W W' → Kp W W' → I pre W' → Ax x a' W' → K a' W') →
      assign.wpIn (F.inRound l) (n - 1 - 1) P (Exit.then K (fun _ _ _ => False)) { tmps := (ps.zip (encs x)).foldl (fun t (p, v) => t.setIfInBounds p v) a.tmps, defers := [] } W)
    (hbody : ∀ (l : Nat) (pre : List α) (x : α) (a' : Act) (W : World), w.heap.size ≤ l → (∃ r, W.heap[l]? = some (.loop r)) → I pre W → Ax x a' W → pre.length < N → body.wpIn (F.inRound l) (n - 1 - 1) P (ownPostG w.heap.size Kp I Ix (pre ++ [x]) W) a' W)
    (hdone : ∀ (D : Nat) (xs : List α) (W : World), w.heap.size ≤ D → S xs → I xs W → W.heap[D]? = some (.deferred (some [])) → Q .normal { a with defers := { target := .collected D, args := #[] } :: a.defers } W)
    (hstop : ∀ (D : Nat) (c : Code) (pre : List α) (W : World), w.heap.size ≤ D → Sp pre → Ix c pre W → W.heap[D]? = some (.deferred (some [])) → c.wpIn F n P Q { a with defers := { target := .collected D, args := #[] } :: a.defers } W) :
    (Code.rangeFunc g ps assign body).wpIn F n P Q a w := by
  refine wpIn_rangeFunc (fun fn hfn => ?_)
  rw [hro]
  obtain ⟨r, hr⟩ : ∃ r : Loop, r = { state := .ready, pending := none, fn := fn, tmps := a.tmps, params := ps, assign := assign, body := body, defers := w.heap.size } := ⟨_, rfl⟩
  obtain ⟨V, hV⟩ : ∃ V, V = (w.alloc (.deferred (some []))).alloc (.loop r) := ⟨_, rfl⟩
  have zV : V.heap.size = w.heap.size + 2 := by rw [hV]; simp
  have hL : LoopAt V w.heap.size r := by
    rw [hV]
    refine ⟨?_, (Below.heap_alloc _ _ _ (by simp)).trans (World.alloc_heap_new w _)⟩
    have := World.alloc_heap_new (w.alloc (.deferred (some []))) (.loop r)
    rwa [World.size_alloc] at this
  refine ⟨w.heap.size + 1, [{ target := .collected w.heap.size, args := #[] }], V, { target := .fn (.func gf) lb, args := #[.func (.yield (w.heap.size + 1)) #[] #[]] }, V, gf, #[.func (.yield (w.heap.size + 1)) #[] #[]] ++ lb, V, ?_, ?_, ?_, ?_, fun _ => h1, ?_⟩
  · rw [hV, hr]; exact run_enterLoop_outer _ _ _ _ _
  · simp only [resolve, hg]; simp [go_sem]
  · intro f' hf'
    simp [Target.leads] at hf'
    subst hf'
    exact hFg
  · simp [invoke, go_sem, eg]
  have up : ∀ {row : Option Nat} {A : World}, (∀ q, row = some q → V.heap.size ≤ q ∧ ∃ o : Obj, A.heap[q]? = some o ∧ o.isCells = false) → ∀ q, row = some q → w.heap.size ≤ q ∧ ∃ o : Obj, A.heap[q]? = some o ∧ o.isCells = false :=
    fun h q e => ⟨by have := (h q e).1; omega, (h q e).2⟩
  refine (hseq (w.heap.size + 1) (fun pre W => I pre W ∧ LoopAt W w.heap.size r) (fun pre W => ∃ c, Ix c pre W ∧ LoopAt W w.heap.size { r with state := .done, pending := some c }) V
    (by rw [hV]; exact ((Below.refl _ w).alloc (Nat.le_refl _) _).alloc (by simp) _) ?_ ?_ ?_ ⟨by rw [hV]; exact hI.alloc _ (hI.alloc _ h0), hL⟩).mono ?_
  · rintro pre A B row ⟨h2, h3⟩ hgr hrow
    exact ⟨hI pre A B row h2 hgr (up hrow), h3.own r (B := V.heap.size) (by omega) hgr (fun q e => (hrow q e).1)⟩
  · rintro pre A B row ⟨c, h2, h3⟩ hgr hrow
    exact ⟨c, hIx c pre A B row h2 hgr (up hrow), h3.own _ (B := V.heap.size) (by omega) hgr (fun q e => (hrow q e).1)⟩
  · rintro pre x W ⟨h2, h3⟩ hlen
    have h := roundO (F := F) (n := n - 1 - 1) (P := P) (Ax := Ax) (encs := encs) (Kp := Kp) hfn hr rfl (fun h k => hKt h k) hKb hps hI hIx hAx pre x W h3 (fun K hK => hassign _ pre x W K h2 hK) (fun a' U hU hi hax => hbody _ pre x a' U (by omega) hU hi hax hlen)
    rw [zV]
    exact h
  · rintro e U ⟨⟨v, rfl⟩, ⟨xs, hS, h2, h3⟩ | ⟨pre, hSp, c, h2, h3⟩⟩
    · refine ⟨none, _, by have := run_endLoop (P := P) h3.rcd (by rw [hr]; simp); rw [show r.pending = none by rw [hr]] at this; exact this, hdone _ xs _ (Nat.le_refl _) hS (hI.putObj _ h2 (by omega) h3.rcd rfl) ((World.putObj_heap_other (by omega)).trans h3.off)⟩
    · refine ⟨some c, _, by have := run_endLoop (P := P) h3.rcd (by simp); exact this, hstop _ c pre _ (Nat.le_refl _) hSp ((hIx c).putObj _ h2 (by omega) h3.rcd rfl) ((World.putObj_heap_other (by omega)).trans h3.off)⟩
end
end Go.Proofs.YtkecnaaacbckoaaGreat
namespace Go.Proofs.YtkecnaaacbckoaaGreat
open Go.RowKit Go.Shelf
attribute [local go_sem] Oper.semAt_some
/-- boxes of functions lie as they lay -/
def Keep92 (W W' : World) : Prop := ∀ (q : Nat) (c : Array Value) (fr : Nat × Nat), W.heap[q]? = some (.cells c 92 fr) → W'.heap[q]? = some (.cells c 92 fr)
theorem Keep92.trans {A B C : World} (h : Keep92 A B) (k : Keep92 B C) : Keep92 A C := fun q c fr e => k q c fr (h q c fr e)
theorem keep92_below {W W' : World} (h : Below W.heap.size W W') : Keep92 W W' := fun q _ _ e => (h.block q (Array.getElem?_eq_some_iff.1 e).1).trans e
theorem keep92_put {W : World} {l : Nat} {o o' : Obj} (hl : W.heap[l]? = some o) (ho : o.isCells = false) : Keep92 W (W.putObj l o') := fun q c fr e => by
  refine (World.putObj_heap_other (fun e2 => ?_)).trans e
  subst e2
  rw [hl] at e
  cases e
  cases ho
def KpN (Pk : Nat → Prop) (W W' : World) : Prop := FrP Pk W W' ∧ Keep92 W W'
theorem KpN.trans {Pk : Nat → Prop} {A B C : World} (h : KpN Pk A B) (k : KpN Pk B C) : KpN Pk A C := ⟨h.1.trans k.1, h.2.trans k.2⟩
theorem kpN_below {Pk : Nat → Prop} {W W' : World} (h : Below W.heap.size W W') : KpN Pk W W' := ⟨FrP.of_below h, keep92_below h⟩
theorem yieldAt_any {F : Fence} (hd : F.depth = none) {m : Nat} (m' l0 : Nat) {P : Program} {l : Nat} {args : Array Value} {W : World} {R : Ending → World → Prop} (h : YieldAt F m P l args W R) : YieldAt (F.inRound l0) m' P l args W R := by
  obtain ⟨fn, tmps, assign, body, hy, hR⟩ := h
  exact ⟨fn, tmps, assign, body, hy, ⟨hR.1, fun c cs _ => hR.2 c cs (fun d h => by rw [hd] at h; cases h)⟩⟩
set_option maxRecDepth 100000 in
/-- what a watch looks at (the function that BookNext hands to its filter) -/
theorem looked_any (c : Ch) (ad : Option Addr) (cap Bw : Nat) (ki pr : ByteArray) (w : World) (hk : w.cell? ⟨Bw, 0, none⟩ = some (.string ki)) (hp : w.cell? ⟨Bw, 1, none⟩ = some (.string pr)) (hs : (c.ob.name.size : Int) ≤ 140737488355328) (hps : (pr.size : Int) ≤ 140737488355328) :
    Calls Tryz.prog 73 #[.agg #[.int .i64 c.ver, .bool c.gone, .string c.ob.kind, .string c.ob.name, .int .i64 c.ob.ver, .int .i64 c.ob.born, .string c.ob.text, .bool c.ob.ending, .slice ad c.ob.hn cap], .pointer (some ⟨Bw, 0, none⟩)] w fun e w' => e = .returned (.bool (lkB c.ob ki pr)) ∧ Below w.heap.size w w' := by
  have hl : Bw < w.heap.size := by
    rcases Nat.lt_or_ge Bw w.heap.size with h | h
    · exact h
    · simp [World.cell?, Array.getElem?_eq_none h] at hk
  have hk2 := ((below_alloc w (.cells #[.int .i64 c.ver, .bool c.gone, .string c.ob.kind, .string c.ob.name, .int .i64 c.ob.ver, .int .i64 c.ob.born, .string c.ob.text, .bool c.ob.ending, .slice ad c.ob.hn cap] 75)).cell (p := ⟨Bw, 0, none⟩) hl).trans hk
  have hp2 := ((below_alloc w (.cells #[.int .i64 c.ver, .bool c.gone, .string c.ob.kind, .string c.ob.name, .int .i64 c.ob.ver, .int .i64 c.ob.born, .string c.ob.text, .bool c.ob.ending, .slice ad c.ob.hn cap] 75)).cell (p := ⟨Bw, 1, none⟩) hl).trans hp
  go_enter Tryz.func73, Tryz.ntmps73
  go_wp2_with (go_at_call 74; go_must (refine (isOf_any c.ob ad cap ki pr _ hs hps).mono ?_; rintro e w1 ⟨rfl, hb1⟩))
  go_ret
  exact ⟨rfl, (below_alloc _ _).trans (hb1.mono (by simp))⟩
set_option maxRecDepth 100000 in
set_option maxHeartbeats 4000000 in
/-- bookFilter's walk -/
theorem filter_o (F : Fence) (m : Nat) (hcv : ∀ (k f : Nat) (args : Array Value) (w : World) (R : Ending → World → Prop), Calls Tryz.prog f args w R → CallsIn F k Tryz.prog f args w R) (hall : ∀ f, F.fn f) (hro : F.round = none) (hm : 4 ≤ m) (hdp : F.depth = none)
    (hPl : ∀ (q : Nat) (R : Nat) (v : Int) (w : World), 0 ≤ v → v ≤ 1000000 → CallsIn F q Tryz.prog 102 #[.pointer (some ⟨R, 0, none⟩), .int .i64 v] w fun e w' => e = .returned (.pointer (some ⟨R, (v % 200).toNat * 9, none⟩)) ∧ w' = w)
    (Bl Bk Bw Ba Bu Br R : Nat) (f k n : Nat) (x : Nat → Ch) (A : Nat → Option Addr) (C : Nat → Nat) (ki pr : ByteArray) (Pk : Nat → Prop) (hkn : k ≤ n) (hfn : f + n ≤ 1000000) (hfit : ∀ i, i < n → ObFit (x i).ob) (hpr : (pr.size : Int) ≤ 140737488355328) (w : World)
    (hBl : w.cell? ⟨Bl, 0, none⟩ = some (.func (.func 104) #[] #[.pointer (some ⟨Ba, 0, none⟩), .pointer (some ⟨Bu, 0, none⟩), .pointer (some ⟨Br, 0, none⟩)])) (hBk : w.cell? ⟨Bk, 0, none⟩ = some (.func (.func 73) #[] #[.pointer (some ⟨Bw, 0, none⟩)])) (hW0 : w.cell? ⟨Bw, 0, none⟩ = some (.string ki)) (hW1 : w.cell? ⟨Bw, 1, none⟩ = some (.string pr))
    (hBa : w.cell? ⟨Ba, 0, none⟩ = some (.int .i64 ((f + k : Nat) : Int))) (hBu : w.cell? ⟨Bu, 0, none⟩ = some (.int .i64 ((f + n : Nat) : Int))) (hBr : w.cell? ⟨Br, 0, none⟩ = some (.pointer (some ⟨R, 0, none⟩)))
    (zl : Bl < w.heap.size) (zk : Bk < w.heap.size ∧ ¬ Pk Bk) (zw : Bw < w.heap.size ∧ ¬ Pk Bw) (za : Ba < w.heap.size) (zu : Bu < w.heap.size ∧ ¬ Pk Bu) (zr : Br < w.heap.size ∧ ¬ Pk Br) (zR : R < w.heap.size ∧ ¬ Pk R) (hPk : ∀ q, w.heap.size ≤ q → Pk q) (hs : RingAt w R n f x A C) :
    SeqO F m Tryz.prog 118 #[.pointer (some ⟨Bl, 0, none⟩), .pointer (some ⟨Bk, 0, none⟩)] (fun i : Ix (n - k) => #[chV (x (k + i.1)) (A (k + i.1)) (C (k + i.1))]) (KpN Pk) (fun ys => ixs ys = (List.range (n - k)).filter (fun i => lkB (x (k + i)).ob ki pr)) (fun pre => ∃ j, j ≤ n - k ∧ ixs pre = (List.range j).filter (fun i => lkB (x (k + i)).ob ki pr)) (n - k) w := by
  obtain ⟨sel, hsel⟩ : ∃ sel : Nat → Bool, sel = fun i => lkB (x (k + i)).ob ki pr := ⟨_, rfl⟩
  rw [← hsel]
  intro l J Jx W hbW hJ hJx hY h0
  have h1 : 1 ≤ m := by omega
  have zW := hbW.size
  have cBl := (hbW.cell (p := ⟨Bl, 0, none⟩) zl).trans hBl
  have zl' : Bl < W.heap.size := by omega
  refine callsIn_of_wp_marks Tryz.func118 rfl (hall 118) ?_ hro
  simp only [Tryz.ntmps118, List.size_toArray, List.length_cons, List.length_nil, Nat.reduceAdd, Nat.reduceSub, Array.replicate_succ, Array.replicate_zero, List.push_toArray, List.append_toArray, List.nil_append, List.cons_append]
  gi_wp2
  obtain ⟨V, hV⟩ : ∃ V, W.alloc (.cells #[.func (.yield l) #[] #[]] 92) = V := ⟨_, rfl⟩
  have zV : W.heap.size + 1 ≤ V.heap.size ∧ V.heap.size ≤ W.heap.size + 1 := by rw [← hV]; simp
  have bWV : Below W.heap.size W V := by rw [← hV]; exact below_alloc _ _
  have hbV : Below w.heap.size w V := hbW.trans (bWV.mono zW)
  have bY : Boxed V W.heap.size 92 (.func (.yield l) #[] #[]) := by rw [← hV]; exact Boxed.new _ _ _
  have hJ0 : J [] V := by rw [← hV]; exact hJ.alloc _ h0
  rw [hV]
  clear hV
  obtain ⟨fl, hfl0⟩ : ∃ fl : List (Ix (n - k)) → List (Ix (n - k)), fl = fun pre => pre.filter (fun i => sel i.1) := ⟨_, rfl⟩
  have fl0 : fl [] = [] := by rw [hfl0]; rfl
  have flx : ∀ pre, ixs (fl pre) = (ixs pre).filter sel := fun pre => by rw [hfl0]; simp [ixs]
  have fln : ∀ pre, (fl pre).length ≤ pre.length := fun pre => by rw [hfl0]; exact List.length_filter_le _ _
  have FLN := hid (show ∀ pre i, sel i.1 = false → fl (pre ++ [i]) = fl pre from fun pre i h => by rw [hfl0]; simp [h])
  have FLY := hid (show ∀ pre i, sel i.1 = true → fl (pre ++ [i]) = fl pre ++ [i] from fun pre i h => by rw [hfl0]; simp [h])
  have FLX := hid flx
  have HSEL := hid hsel
  clear hfl0 hsel flx
  have hPkB : ∀ {X Y : World}, Below w.heap.size X Y → FrP Pk X Y := fun {X Y} h => ⟨h.os, h.tape, h.output, h.size, fun q _ hq => h.block q (by
    rcases Nat.lt_or_ge q w.heap.size with h2 | h2
    · exact h2
    · exact absurd (hPk q h2) hq)⟩
  refine wpIn_rangeFunc_ownH (α := Ix (n - k)) hro h1 (gf := 104) (lb := #[.pointer (some ⟨Ba, 0, none⟩), .pointer (some ⟨Bu, 0, none⟩), .pointer (some ⟨Br, 0, none⟩)]) (encs := fun i => #[chV (x (k + i.1)) (A (k + i.1)) (C (k + i.1))]) (Kp := KpN Pk) (S := fun ys => ixs ys = List.range (n - k)) (Sp := fun pre => ∃ j, j ≤ n - k ∧ ixs pre = List.range j) (N := n - k) (w0 := V) rfl (hall 104) (enters_of Tryz.func104 (by kernel_rfl) rfl)
    ?seq (fun h1 h2 => h1.trans h2) (fun X l' o o' hl' ho1 ho2 ho3 => ⟨hPkB (belowK_b (w := V) (n₀ := w.heap.size) (by omega) X l' o o' hl' ho1 ho2 ho3), keep92_put ho1 ho2⟩) (Below.refl _ _) (fun _ => rfl)
    (fun pre X => J (fl pre) X ∧ FrP Pk V X ∧ Boxed X W.heap.size 92 (.func (.yield l) #[] #[]))
    (fun c pre X => c = .ret ∧ Jx (fl pre) X) ?own ?ownx ⟨by rw [fl0]; exact hJ0, FrP.refl _ _, bY⟩
    (fun i a' X => ∃ Bx, X.heap[Bx]? = some (.cells #[.int .i64 (x (k + i.1)).ver, .bool (x (k + i.1)).gone, .string (x (k + i.1)).ob.kind, .string (x (k + i.1)).ob.name, .int .i64 (x (k + i.1)).ob.ver, .int .i64 (x (k + i.1)).ob.born, .string (x (k + i.1)).ob.text, .bool (x (k + i.1)).ob.ending, .slice (A (k + i.1)) (x (k + i.1)).ob.hn (C (k + i.1))] 75 (0, 0)) ∧ a' = { tmps := #[.func (.yield l) #[] #[], .pointer (some ⟨Bl, 0, none⟩), .pointer (some ⟨Bk, 0, none⟩), .pointer (some ⟨W.heap.size, 0, none⟩), .pointer (some ⟨Bx, 0, none⟩), .func (.func 104) #[] #[.pointer (some ⟨Ba, 0, none⟩), .pointer (some ⟨Bu, 0, none⟩), .pointer (some ⟨Br, 0, none⟩)], chV (x (k + i.1)) (A (k + i.1)) (C (k + i.1)), undef, undef, undef, undef, undef, undef, undef, undef, undef], defers := [] })
    (fun i a' _ X Y row hs' hg hr => by
      obtain ⟨Bx, e2, e3⟩ := hs'
      refine ⟨Bx, (hg.block Bx (Array.getElem?_eq_some_iff.1 e2).1 (fun e => ?_)).trans e2, e3⟩
      obtain ⟨_, o, ho, hc⟩ := hr Bx e.symm
      rw [e2] at ho
      cases ho
      cases hc)
    ?assign ?body ?done ?stop
  case seq =>
    intro l' J' Jx' X hX _ _ hY' h0'
    have h := between2_in F (m - 1) (hall 104) (hall 102) hro (by omega) l' Ba Bu Br R Pk f k n x A C hkn hfn
    have hwX : Below w.heap.size w X := hbV.trans (hX.mono (by omega))
    exact h J' Jx' (hPl _ R) X (fun pre x' X1 hj hlen => (hY' pre x' X1 hj hlen).mono (fun e Y hh => by
      rcases hh with ⟨h2, h3, h4⟩ | h2
      · exact Or.inl ⟨h2, h3, h4.1⟩
      · exact Or.inr h2))
      ((hwX.cell (p := ⟨Ba, 0, none⟩) za).trans hBa) ((hwX.cell (p := ⟨Bu, 0, none⟩) zu.1).trans hBu) ((hwX.cell (p := ⟨Br, 0, none⟩) zr.1).trans hBr)
      ⟨by have := hwX.size; omega, zu.2⟩ ⟨by have := hwX.size; omega, zr.2⟩ ⟨by have := hwX.size; omega, zR.2⟩ (hs.below hwX zR.1 (Nat.le_refl _)) h0'
  case own =>
    rintro pre X Y row ⟨h2, h3, h4⟩ hg hr
    refine ⟨hJ _ X Y row h2 hg (fun r e => ⟨by have := (hr r e).1; omega, (hr r e).2⟩), h3.trans (hPkB ((Below.refl w.heap.size X).grown hg (by have := h3.size; omega) (fun r e => by have := (hr r e).1; omega))), ?_⟩
    exact h4.kept hg (fun e => by have := (hr _ e.symm).1; omega)
  case ownx =>
    rintro c pre X Y row ⟨h2, h3⟩ hg hr
    exact ⟨h2, hJx _ X Y row h3 hg (fun r e => ⟨by have := (hr r e).1; omega, (hr r e).2⟩)⟩
  case assign =>
    rintro l' pre i X K ⟨h2, h3, h4⟩ hK
    simp only [chV]
    gi_wp2
    exact hK _ _ ((KeepsOthers.alloc _ _).from _) (kpN_below (below_alloc _ _)) ⟨hJ.alloc _ h2, h3.trans (FrP.of_below (below_alloc _ _)), h4.alloc _⟩ ⟨X.heap.size, World.alloc_heap_new X _, rfl⟩
  case body =>
    rintro l0 pre i a' X hl ⟨r, hr'⟩ ⟨h2, h3, h4⟩ ⟨Bx, bX, rfl⟩ hlt
    have zX := h3.size
    have hin : k + i.1 < n := by have := i.2; omega
    have hft := hfit (k + i.1) hin
    have hns : ((x (k + i.1)).ob.name.size : Int) ≤ 140737488355328 := hft.n
    have hX : Holds X Bx #[.int .i64 (x (k + i.1)).ver, .bool (x (k + i.1)).gone, .string (x (k + i.1)).ob.kind, .string (x (k + i.1)).ob.name, .int .i64 (x (k + i.1)).ob.ver, .int .i64 (x (k + i.1)).ob.born, .string (x (k + i.1)).ob.text, .bool (x (k + i.1)).ob.ending, .slice (A (k + i.1)) (x (k + i.1)).ob.hn (C (k + i.1))] := fun j => by simp [World.cell?, bX]
    have zBx : Bx < X.heap.size := (Array.getElem?_eq_some_iff.1 bX).1
    have x0 := hX 0; have x1 := hX 1; have x2 := hX 2; have x3 := hX 3; have x4 := hX 4; have x5 := hX 5; have x6 := hX 6; have x7 := hX 7; have x8 := hX 8
    simp only [List.getElem?_toArray, List.getElem?_cons_succ, List.getElem?_cons_zero] at x0 x1 x2 x3 x4 x5 x6 x7 x8
    have cK := (h3.cell (p := ⟨Bk, 0, none⟩) (by show Bk < _; omega) zk.2).trans ((hbV.cell (p := ⟨Bk, 0, none⟩) zk.1).trans hBk)
    have cW0 := (h3.cell (p := ⟨Bw, 0, none⟩) (by show Bw < _; omega) zw.2).trans ((hbV.cell (p := ⟨Bw, 0, none⟩) zw.1).trans hW0)
    have cW1 := (h3.cell (p := ⟨Bw, 1, none⟩) (by show Bw < _; omega) zw.2).trans ((hbV.cell (p := ⟨Bw, 1, none⟩) zw.1).trans hW1)
    have hC : ∀ q, CallsIn (F.inRound l0) q Tryz.prog 73 #[.agg #[.int .i64 (x (k + i.1)).ver, .bool (x (k + i.1)).gone, .string (x (k + i.1)).ob.kind, .string (x (k + i.1)).ob.name, .int .i64 (x (k + i.1)).ob.ver, .int .i64 (x (k + i.1)).ob.born, .string (x (k + i.1)).ob.text, .bool (x (k + i.1)).ob.ending, .slice (A (k + i.1)) (x (k + i.1)).ob.hn (C (k + i.1))], .pointer (some ⟨Bw, 0, none⟩)] X fun e w' => e = .returned (.bool (sel i.1)) ∧ Below X.heap.size X w' := fun q => by
      have h := CallsIn.inRound l0 (hcv q _ _ _ _ (looked_any (x (k + i.1)) (A (k + i.1)) (C (k + i.1)) Bw ki pr X cW0 cW1 hns hpr))
      rw [HSEL.out]
      exact h
    have hpl : (fl pre).length < n - k := by have := fln pre; omega
    have h1' : 1 ≤ m - 1 - 1 := by omega
    have HX := hid hX
    have HC := hid hC
    have H2 := hid h2
    have H3 := hid h3
    clear hX hC h2 h3 cW0 cW1
    cases hse : sel i.1 with
    | false =>
      have HFL := hid (FLN.out pre i hse)
      gi_wp2_with (gi_at_call 73; go_must (refine (HC.out _).mono ?_; rw [hse]; rintro e w1 ⟨rfl, hb1⟩))
      refine ⟨(keepsO_of_below hb1).from _, kpN_below hb1, ?_⟩
      show J (fl (pre ++ [i])) w1 ∧ _
      rw [HFL.out]
      exact ⟨hJ _ X w1 none H2.out (grown_of_below hb1) (fun r e => by cases e), H3.out.trans (FrP.of_below hb1), Boxed.of_below h4 hb1⟩
    | true =>
      have HFL := hid (FLY.out pre i hse)
      gi_wp2_with (gi_at_call 73; go_must (refine (HC.out _).mono ?_; rw [hse]; rintro e w1 ⟨rfl, hb1⟩; have zw1 := hb1.size; have c4 := (Boxed.of_below h4 hb1).cell; have hX1 := HX.out.below hb1 zBx; have y0 := hX1 0; have y1 := hX1 1; have y2 := hX1 2; have y3 := hX1 3; have y4 := hX1 4; have y5 := hX1 5; have y6 := hX1 6; have y7 := hX1 7; have y8 := hX1 8; simp only [List.getElem?_toArray, List.getElem?_cons_succ, List.getElem?_cons_zero] at y0 y1 y2 y3 y4 y5 y6 y7 y8; obtain ⟨fn, tmps, assign, body, hy, hR⟩ := yieldAt_any hdp (m - 1 - 1 - 1) l0 (hY (fl pre) i w1 (hJ _ X w1 none H2.out (grown_of_below hb1) (fun r e => by cases e)) hpl); unfold chV at hy))
      refine hR.mono ?_
      rintro e W3 (⟨rfl, hJ3, hk3, hf3⟩ | ⟨rfl, hJx3, hf3⟩)
      · gi_wp2
        refine ⟨((keepsO_of_below hb1).from _).trans (keepsFrom_higher hf3 (by omega)), (kpN_below hb1).trans hk3, ?_⟩
        show J (fl (pre ++ [i])) W3 ∧ _
        rw [HFL.out]
        exact ⟨hJ3, (H3.out.trans (FrP.of_below hb1)).trans hk3.1, hk3.2 _ _ _ (Boxed.of_below h4 hb1)⟩
      · gi_wp2
        refine ⟨((keepsO_of_below hb1).from _).trans (keepsFrom_higher hf3 (by omega)), rfl, ?_⟩
        rw [HFL.out]
        exact hJx3
  case done =>
    rintro D ys X hD hS ⟨h2, h3, h4⟩ hK
    have HE := hid (show ixs (fl ys) = (List.range (n - k)).filter sel from by rw [FLX.out, hS])
    have HJ2 := hid (hJ.putObj (.deferred none) h2 (by omega) hK rfl)
    clear h2
    gi_wp2
    refine ⟨by simp, .inl ⟨_, _, rfl, run_takeDeferred hK, ?_⟩⟩
    exact ⟨.tuple #[], by simp [results, Tryz.results118, go_sem], ⟨_, rfl⟩, .inl ⟨fl ys, HE.out, HJ2.out⟩⟩
  case stop =>
    rintro D c pre X hD ⟨j, hj, hSp⟩ ⟨rfl, h2⟩ hK
    have HE := hid (show ixs (fl pre) = (List.range j).filter sel from by rw [FLX.out, hSp])
    have HJ2 := hid (hJx.putObj (.deferred none) h2 (by omega) hK rfl)
    clear h2
    gi_wp2
    refine ⟨by simp, .inl ⟨_, _, rfl, run_takeDeferred hK, ?_⟩⟩
    exact ⟨.tuple #[], by simp [results, Tryz.results118, go_sem], ⟨_, rfl⟩, .inr ⟨fl pre, ⟨j, hj, HE.out⟩, HJ2.out⟩⟩
end Go.Proofs.YtkecnaaacbckoaaGreat
namespace Go.Proofs.YtkecnaaacbckoaaGreat
open Go.RowKit Go.Shelf
attribute [local go_sem] Oper.semAt_some
def upB (t : Nat → Value) (i : Nat) (v : Value) : Nat → Value := fun j => bif j == i then v else t j
set_option maxRecDepth 100000 in
theorem filterMk_in (F : Fence) (m : Nat) (h75 : F.fn 75) (hro : F.round = none) (lb lk : Array Value) (w : World) :
    CallsIn F m Tryz.prog 75 #[.func (.func 104) #[] lb, .func (.func 73) #[] lk] w fun e w' => e = .returned (.func (.func 118) #[] #[.pointer (some ⟨w.heap.size, 0, none⟩), .pointer (some ⟨w.heap.size + 1, 0, none⟩)]) ∧ w' = (w.alloc (.cells #[.func (.func 104) #[] lb] 83)).alloc (.cells #[.func (.func 73) #[] lk] 92) := by
  refine callsIn_of_wp Tryz.func75 rfl h75 ?_ hro
  simp only [Tryz.ntmps75, List.size_toArray, List.length_cons, List.length_nil, Nat.reduceAdd, Nat.reduceSub, Array.replicate_succ, Array.replicate_zero, List.push_toArray, List.append_toArray, List.nil_append, List.cons_append]
  gi_wp2
  go_ret
  exact ⟨rfl, rfl⟩
/-- the ring, the walk between two versions, the filter over it: as values -/
def RgF (W : World) (n f : Nat) (x : Nat → Ch) (A : Nat → Option Addr) (C : Nat → Nat) (v : Value) (X : World) : Prop := ∃ R, v = .pointer (some ⟨R, 0, none⟩) ∧ W.heap.size ≤ R ∧ RingAt X R n f x A C
structure BtC (W : World) (n f : Nat) (fr now : Int) (x : Nat → Ch) (A : Nat → Option Addr) (C : Nat → Nat) (R b : Nat) (X : World) : Prop where
  r : W.heap.size ≤ R ∧ R < b
  ring : RingAt X R n f x A C
  c0 : X.cell? ⟨b, 0, none⟩ = some (.pointer (some ⟨R, 0, none⟩))
  c1 : X.cell? ⟨b + 1, 0, none⟩ = some (.int .i64 fr)
  c2 : X.cell? ⟨b + 1 + 1, 0, none⟩ = some (.int .i64 now)
  lt : b + 1 + 1 < X.heap.size
def BtF (W : World) (n f : Nat) (fr now : Int) (x : Nat → Ch) (A : Nat → Option Addr) (C : Nat → Nat) (v : Value) (X : World) : Prop := ∃ R b, v = .func (.func 104) #[] #[.pointer (some ⟨b + 1, 0, none⟩), .pointer (some ⟨b + 1 + 1, 0, none⟩), .pointer (some ⟨b, 0, none⟩)] ∧ BtC W n f fr now x A C R b X
def FtF (W : World) (sw n f : Nat) (fr now : Int) (x : Nat → Ch) (A : Nat → Option Addr) (C : Nat → Nat) (v : Value) (X : World) : Prop :=
  ∃ R b c, v = .func (.func 118) #[] #[.pointer (some ⟨c, 0, none⟩), .pointer (some ⟨c + 1, 0, none⟩)] ∧ BtC W n f fr now x A C R b X ∧ b + 1 + 1 < c ∧ X.cell? ⟨c, 0, none⟩ = some (.func (.func 104) #[] #[.pointer (some ⟨b + 1, 0, none⟩), .pointer (some ⟨b + 1 + 1, 0, none⟩), .pointer (some ⟨b, 0, none⟩)]) ∧ X.cell? ⟨c + 1, 0, none⟩ = some (.func (.func 73) #[] #[.pointer (some ⟨sw, 0, none⟩)]) ∧ c + 1 < X.heap.size
section
variable {W X Y : World} {n f : Nat} {fr now : Int} {x : Nat → Ch} {A : Nat → Option Addr} {C : Nat → Nat} {v : Value}
theorem RgF.below (h : RgF W n f x A C v X) (hb : Below X.heap.size X Y) : RgF W n f x A C v Y := by
  obtain ⟨R, e, z, hr⟩ := h
  exact ⟨R, e, z, hr.below hb hr.room.lt (Nat.le_refl _)⟩
theorem BtC.below {R b : Nat} (h : BtC W n f fr now x A C R b X) (hb : Below X.heap.size X Y) : BtC W n f fr now x A C R b Y := by
  have h1 := h.r
  have h2 := h.lt
  exact ⟨h.r, h.ring.below hb h.ring.room.lt (Nat.le_refl _), (hb.cell (p := ⟨b, 0, none⟩) (by show b < _; omega)).trans h.c0, (hb.cell (p := ⟨b + 1, 0, none⟩) (by show b + 1 < _; omega)).trans h.c1, (hb.cell (p := ⟨b + 1 + 1, 0, none⟩) h2).trans h.c2, Nat.lt_of_lt_of_le h2 hb.size⟩
theorem BtF.below (h : BtF W n f fr now x A C v X) (hb : Below X.heap.size X Y) : BtF W n f fr now x A C v Y := by
  obtain ⟨R, b, e, hc⟩ := h
  exact ⟨R, b, e, hc.below hb⟩
theorem FtF.below {sw : Nat} (h : FtF W sw n f fr now x A C v X) (hb : Below X.heap.size X Y) : FtF W sw n f fr now x A C v Y := by
  obtain ⟨R, b, c, e, hc, z, c0, c1, z2⟩ := h
  exact ⟨R, b, c, e, hc.below hb, z, (hb.cell (p := ⟨c, 0, none⟩) (by show c < _; omega)).trans c0, (hb.cell (p := ⟨c + 1, 0, none⟩) z2).trans c1, Nat.lt_of_lt_of_le z2 hb.size⟩
end
def Nx7 (mk : (Nat → Value) → Array Value) (W : World) (s sw n : Nat) (ad : Option Addr) (cap : Nat) (fr now : Int) (f : Nat) (x : Nat → Ch) (A : Nat → Option Addr) (C : Nat → Nat) (l : Array Bool) (a : Act) (X : World) : Prop :=
  ∃ t : Nat → Value, a = ⟨mk t, []⟩ ∧ l.size = 10 ∧ Below W.heap.size W X ∧ (l.getD 0 false = true → t 0 = .pointer (some ⟨s, 3, none⟩)) ∧ (l.getD 1 false = true → t 1 = .slice ad n cap) ∧ (l.getD 2 false = true → RgF W n f x A C (t 2) X) ∧ (l.getD 3 false = true → t 3 = .pointer (some ⟨sw, 2, none⟩)) ∧ (l.getD 4 false = true → t 4 = .int .i64 fr) ∧ (l.getD 5 false = true → t 5 = .pointer (some ⟨s, 0, none⟩)) ∧ (l.getD 6 false = true → t 6 = .int .i64 now) ∧ (l.getD 7 false = true → BtF W n f fr now x A C (t 7) X) ∧ (l.getD 8 false = true → t 8 = .func (.func 73) #[] #[.pointer (some ⟨sw, 0, none⟩)]) ∧ (l.getD 9 false = true → FtF W sw n f fr now x A C (t 9) X)
set_option maxRecDepth 100000 in
set_option maxHeartbeats 4000000 in
theorem nextReg7 (F : Fence) (m : Nat) (hcv : ∀ (k f : Nat) (args : Array Value) (w : World) (R : Ending → World → Prop), Calls Tryz.prog f args w R → CallsIn F k Tryz.prog f args w R) (hall : ∀ f, F.fn f) (hro : F.round = none) (hm : 6 ≤ m)
    (p0 p1 p2 p5 p6 p8 p9 p10 p11 p12 p13 p14 p15 p16 p17 p18 p19 p20 p21 p22 p23 p24 p25 p26 p27 p28 p29 p30 p31 p32 p33 p34 p35 p46 p47 p48 p49 p50 p51 p52 p53 p54 p55 p56 p57 p58 p59 p60 p61 p62 p63 p64 p65 p66 p67 : Value) (s sw n : Nat) (ad : Option Addr) (g cap : Nat) (fr now : Int) (f : Nat) (x : Nat → Ch) (A : Nat → Option Addr) (C : Nat → Nat) (W : World) (hn : n ≤ 200) (hfn : f + n ≤ 1000000) (hv : ∀ i, i < n → (x i).ver = (f : Int) + 1 + i) (had : 0 < n → ad = some ⟨g, 0, none⟩) (hg : 0 < n → g < W.heap.size) (hc : ∀ i, i < n → ChCells W g (i * 9) (x i) (A i) (C i))
    (hS0 : W.cell? ⟨s, 0, none⟩ = some (.int .i64 now)) (hS3 : W.cell? ⟨s, 3, none⟩ = some (.slice ad n cap)) (hW2 : W.cell? ⟨sw, 2, none⟩ = some (.int .i64 fr)) (zs : s < W.heap.size) (zw : sw < W.heap.size) (Q : Exit → Act → World → Prop)
    (hQ : ∀ u0 u1 u2 u3 u4 u5 u6 u7 u8 R b c X, BtC W n f fr now x A C R b X → b + 1 + 1 < c → X.cell? ⟨c, 0, none⟩ = some (.func (.func 104) #[] #[.pointer (some ⟨b + 1, 0, none⟩), .pointer (some ⟨b + 1 + 1, 0, none⟩), .pointer (some ⟨b, 0, none⟩)]) → X.cell? ⟨c + 1, 0, none⟩ = some (.func (.func 73) #[] #[.pointer (some ⟨sw, 0, none⟩)]) → c + 1 < X.heap.size → Below W.heap.size W X → Q .normal ⟨#[p0, p1, p2, .pointer (some ⟨s, 0, none⟩), .pointer (some ⟨sw, 0, none⟩), p5, p6, .func (.func 73) #[] #[.pointer (some ⟨sw, 0, none⟩)], p8, p9, p10, p11, p12, p13, p14, p15, p16, p17, p18, p19, p20, p21, p22, p23, p24, p25, p26, p27, p28, p29, p30, p31, p32, p33, p34, p35, u0, u1, u2, u3, u4, u5, u6, u7, u8, .func (.func 118) #[] #[.pointer (some ⟨c, 0, none⟩), .pointer (some ⟨c + 1, 0, none⟩)], p46, p47, p48, p49, p50, p51, p52, p53, p54, p55, p56, p57, p58, p59, p60, p61, p62, p63, p64, p65, p66, p67], []⟩ X) :
    Code.wpIn F m Tryz.prog (Code.region 7 #[{ dst := some 36, op := Op.fieldAddr 32 (Operand.tmp 3) 3, type := 0, pos := "l6_book_watch.go:35", after := #[], guard := none }, { dst := some 37, op := Op.load 29 (Operand.tmp 36), type := 29, pos := "l6_book_watch.go:35", after := #[{ on := 0, ground := Ground.data }], guard := none }, { dst := some 38, op := Op.call { callee := Callee.value (Operand.func 46), args := #[Operand.tmp 37], argTypes := #[29] }, type := 79, pos := "l6_book_watch.go:35", after := #[{ on := 1, ground := Ground.data }], guard := none }, { dst := some 39, op := Op.fieldAddr 48 (Operand.tmp 4) 2, type := 0, pos := "l6_book_watch.go:35", after := #[], guard := none }, { dst := some 40, op := Op.load 3 (Operand.tmp 39), type := 3, pos := "l6_book_watch.go:35", after := #[{ on := 3, ground := Ground.data }], guard := none }, { dst := some 41, op := Op.fieldAddr 32 (Operand.tmp 3) 0, type := 0, pos := "l6_book_watch.go:35", after := #[], guard := none }, { dst := some 42, op := Op.load 3 (Operand.tmp 41), type := 3, pos := "l6_book_watch.go:35", after := #[{ on := 5, ground := Ground.data }], guard := none }, { dst := some 43, op := Op.call { callee := Callee.value (Operand.func 48), args := #[Operand.tmp 38, Operand.tmp 40, Operand.tmp 42], argTypes := #[79, 3, 3] }, type := 83, pos := "l6_book_watch.go:35", after := #[{ on := 2, ground := Ground.data }, { on := 4, ground := Ground.data }, { on := 6, ground := Ground.data }, { on := 2, ground := Ground.chain }], guard := none }, { dst := some 44, op := Op.move (Operand.tmp 7), type := 92, pos := "l6_book_watch.go:35", after := #[], guard := none }, { dst := some 45, op := Op.call { callee := Callee.value (Operand.func 75), args := #[Operand.tmp 43, Operand.tmp 44], argTypes := #[83, 92] }, type := 83, pos := "l6_book_watch.go:35", after := #[{ on := 7, ground := Ground.data }, { on := 8, ground := Ground.data }, { on := 7, ground := Ground.chain }], guard := none }] true) Q ⟨#[p0, p1, p2, .pointer (some ⟨s, 0, none⟩), .pointer (some ⟨sw, 0, none⟩), p5, p6, .func (.func 73) #[] #[.pointer (some ⟨sw, 0, none⟩)], p8, p9, p10, p11, p12, p13, p14, p15, p16, p17, p18, p19, p20, p21, p22, p23, p24, p25, p26, p27, p28, p29, p30, p31, p32, p33, p34, p35, undef, undef, undef, undef, undef, undef, undef, undef, undef, undef, p46, p47, p48, p49, p50, p51, p52, p53, p54, p55, p56, p57, p58, p59, p60, p61, p62, p63, p64, p65, p66, p67], []⟩ W := by
  refine wpIn_region_inv (by kernel_rfl) (Nx7 (fun t : Nat → Value => #[p0, p1, p2, .pointer (some ⟨s, 0, none⟩), .pointer (some ⟨sw, 0, none⟩), p5, p6, .func (.func 73) #[] #[.pointer (some ⟨sw, 0, none⟩)], p8, p9, p10, p11, p12, p13, p14, p15, p16, p17, p18, p19, p20, p21, p22, p23, p24, p25, p26, p27, p28, p29, p30, p31, p32, p33, p34, p35, t 0, t 1, t 2, t 3, t 4, t 5, t 6, t 7, t 8, t 9, p46, p47, p48, p49, p50, p51, p52, p53, p54, p55, p56, p57, p58, p59, p60, p61, p62, p63, p64, p65, p66, p67]) W s sw n ad cap fr now f x A C) ?_ ?_ ?_ ?_
  · refine ⟨fun _ => undef, rfl, by simp, (Below.refl _ W).drew, fun h => ?_, fun h => ?_, fun h => ?_, fun h => ?_, fun h => ?_, fun h => ?_, fun h => ?_, fun h => ?_, fun h => ?_, fun h => ?_⟩ <;> simp at h
  · rintro l a X ⟨t, _, hs, _⟩
    exact hs
  · rintro l a X ⟨t, rfl, hs, hB, g0, g1, g2, g3, g4, g5, g6, g7, g8, g9⟩ hr
    have AL := all_listed (by kernel_rfl) (by rw [hs]; rfl) hr
    obtain ⟨R, b, c, e9, h1, h2, h3, h4, h5⟩ := g9 (AL 9 (by decide))
    have h := hQ (t 0) (t 1) (t 2) (t 3) (t 4) (t 5) (t 6) (t 7) (t 8) R b c X h1 h2 h3 h4 h5 hB
    rw [← e9] at h
    exact h
  · rintro l a X i ⟨t, rfl, hs, hB, g0, g1, g2, g3, g4, g5, g6, g7, g8, g9⟩ hr
    obtain ⟨hu, o', ho, hdep⟩ := mem_ready.1 hr
    have hi10 : i < 10 := by
      rcases Nat.lt_or_ge i 10 with h | h
      · exact h
      · rw [Array.getElem?_eq_none (by simpa using h)] at ho
        cases ho
    have kp : ∀ j, ¬ j = i → (l.setIfInBounds i true).getD j false = l.getD j false := fun j hj => by rw [getD_set (by omega), if_neg hj]
    have hs' : (l.setIfInBounds i true).size = 10 := by simp [hs]
    have zX := hB.size
    have xS0 := (hB.cell (p := ⟨s, 0, none⟩) zs).trans hS0
    have xS3 := (hB.cell (p := ⟨s, 3, none⟩) zs).trans hS3
    have xW2 := (hB.cell (p := ⟨sw, 2, none⟩) zw).trans hW2
    clear hr hu
    rcases (show i = 0 ∨ i = 1 ∨ i = 2 ∨ i = 3 ∨ i = 4 ∨ i = 5 ∨ i = 6 ∨ i = 7 ∨ i = 8 ∨ i = 9 by omega) with rfl | rfl | rfl | rfl | rfl | rfl | rfl | rfl | rfl | rfl
    · simp only [List.getElem?_toArray, List.getElem?_cons_zero, Option.some.injEq] at ho
      subst ho
      clear hdep
      refine wpOpIn_of rfl rfl ?_
      generalize hK : Nx7 (fun t : Nat → Value => #[p0, p1, p2, .pointer (some ⟨s, 0, none⟩), .pointer (some ⟨sw, 0, none⟩), p5, p6, .func (.func 73) #[] #[.pointer (some ⟨sw, 0, none⟩)], p8, p9, p10, p11, p12, p13, p14, p15, p16, p17, p18, p19, p20, p21, p22, p23, p24, p25, p26, p27, p28, p29, p30, p31, p32, p33, p34, p35, t 0, t 1, t 2, t 3, t 4, t 5, t 6, t 7, t 8, t 9, p46, p47, p48, p49, p50, p51, p52, p53, p54, p55, p56, p57, p58, p59, p60, p61, p62, p63, p64, p65, p66, p67]) W s sw n ad cap fr now f x A C (l.setIfInBounds 0 true) = K
      go_simp
      rw [← hK]
      refine ⟨upB t 0 (.pointer (some ⟨s, 3, none⟩)), ?_, hs', hB, fun _ => rfl, fun h => by rw [kp 1 (by decide)] at h; exact g1 h, fun h => by rw [kp 2 (by decide)] at h; exact g2 h, fun h => by rw [kp 3 (by decide)] at h; exact g3 h, fun h => by rw [kp 4 (by decide)] at h; exact g4 h, fun h => by rw [kp 5 (by decide)] at h; exact g5 h, fun h => by rw [kp 6 (by decide)] at h; exact g6 h, fun h => by rw [kp 7 (by decide)] at h; exact g7 h, fun h => by rw [kp 8 (by decide)] at h; exact g8 h, fun h => by rw [kp 9 (by decide)] at h; exact g9 h⟩
      simp [upB]
    · simp only [List.getElem?_toArray, List.getElem?_cons_succ, List.getElem?_cons_zero, Option.some.injEq] at ho
      subst ho
      have e0 := g0 (hdep ⟨0, .data⟩ (by simp) rfl)
      clear hdep
      refine wpOpIn_of rfl rfl ?_
      generalize hK : Nx7 (fun t : Nat → Value => #[p0, p1, p2, .pointer (some ⟨s, 0, none⟩), .pointer (some ⟨sw, 0, none⟩), p5, p6, .func (.func 73) #[] #[.pointer (some ⟨sw, 0, none⟩)], p8, p9, p10, p11, p12, p13, p14, p15, p16, p17, p18, p19, p20, p21, p22, p23, p24, p25, p26, p27, p28, p29, p30, p31, p32, p33, p34, p35, t 0, t 1, t 2, t 3, t 4, t 5, t 6, t 7, t 8, t 9, p46, p47, p48, p49, p50, p51, p52, p53, p54, p55, p56, p57, p58, p59, p60, p61, p62, p63, p64, p65, p66, p67]) W s sw n ad cap fr now f x A C (l.setIfInBounds 1 true) = K
      go_simp
      rw [← hK]
      refine ⟨upB t 1 (.slice ad n cap), ?_, hs', hB, fun h => by rw [kp 0 (by decide)] at h; exact g0 h, fun _ => rfl, fun h => by rw [kp 2 (by decide)] at h; exact g2 h, fun h => by rw [kp 3 (by decide)] at h; exact g3 h, fun h => by rw [kp 4 (by decide)] at h; exact g4 h, fun h => by rw [kp 5 (by decide)] at h; exact g5 h, fun h => by rw [kp 6 (by decide)] at h; exact g6 h, fun h => by rw [kp 7 (by decide)] at h; exact g7 h, fun h => by rw [kp 8 (by decide)] at h; exact g8 h, fun h => by rw [kp 9 (by decide)] at h; exact g9 h⟩
      simp [upB, e0]
    · simp only [List.getElem?_toArray, List.getElem?_cons_succ, List.getElem?_cons_zero, Option.some.injEq] at ho
      subst ho
      have e1 := g1 (hdep ⟨1, .data⟩ (by simp) rfl)
      clear hdep
      refine wpOpIn_of rfl rfl ?_
      generalize hK : Nx7 (fun t : Nat → Value => #[p0, p1, p2, .pointer (some ⟨s, 0, none⟩), .pointer (some ⟨sw, 0, none⟩), p5, p6, .func (.func 73) #[] #[.pointer (some ⟨sw, 0, none⟩)], p8, p9, p10, p11, p12, p13, p14, p15, p16, p17, p18, p19, p20, p21, p22, p23, p24, p25, p26, p27, p28, p29, p30, p31, p32, p33, p34, p35, t 0, t 1, t 2, t 3, t 4, t 5, t 6, t 7, t 8, t 9, p46, p47, p48, p49, p50, p51, p52, p53, p54, p55, p56, p57, p58, p59, p60, p61, p62, p63, p64, p65, p66, p67]) W s sw n ad cap fr now f x A C (l.setIfInBounds 2 true) = K
      go_simp
      refine ⟨fun _ => by omega, ?_⟩
      refine (hcv _ _ _ _ _ (ringOf_any n x ad g cap A C f X hn hfn hv had (fun h0 => by have := hg h0; omega) (fun i hi => (hc i hi).below hB (hg (by omega))))).mono ?_
      rintro e Y ⟨rfl, hring, hY⟩
      rw [← hK]
      refine ⟨upB t 2 (.pointer (some ⟨X.heap.size, 0, none⟩)), ?_, hs', hB.trans (hY.mono hB.size), fun h => by rw [kp 0 (by decide)] at h; exact g0 h, fun h => by rw [kp 1 (by decide)] at h; exact g1 h, fun _ => ⟨X.heap.size, rfl, zX, hring⟩, fun h => by rw [kp 3 (by decide)] at h; exact g3 h, fun h => by rw [kp 4 (by decide)] at h; exact g4 h, fun h => by rw [kp 5 (by decide)] at h; exact g5 h, fun h => by rw [kp 6 (by decide)] at h; exact g6 h, fun h => by rw [kp 7 (by decide)] at h; exact (g7 h).below hY, fun h => by rw [kp 8 (by decide)] at h; exact g8 h, fun h => by rw [kp 9 (by decide)] at h; exact (g9 h).below hY⟩
      simp [upB, e1]
    · simp only [List.getElem?_toArray, List.getElem?_cons_succ, List.getElem?_cons_zero, Option.some.injEq] at ho
      subst ho
      clear hdep
      refine wpOpIn_of rfl rfl ?_
      generalize hK : Nx7 (fun t : Nat → Value => #[p0, p1, p2, .pointer (some ⟨s, 0, none⟩), .pointer (some ⟨sw, 0, none⟩), p5, p6, .func (.func 73) #[] #[.pointer (some ⟨sw, 0, none⟩)], p8, p9, p10, p11, p12, p13, p14, p15, p16, p17, p18, p19, p20, p21, p22, p23, p24, p25, p26, p27, p28, p29, p30, p31, p32, p33, p34, p35, t 0, t 1, t 2, t 3, t 4, t 5, t 6, t 7, t 8, t 9, p46, p47, p48, p49, p50, p51, p52, p53, p54, p55, p56, p57, p58, p59, p60, p61, p62, p63, p64, p65, p66, p67]) W s sw n ad cap fr now f x A C (l.setIfInBounds 3 true) = K
      go_simp
      rw [← hK]
      refine ⟨upB t 3 (.pointer (some ⟨sw, 2, none⟩)), ?_, hs', hB, fun h => by rw [kp 0 (by decide)] at h; exact g0 h, fun h => by rw [kp 1 (by decide)] at h; exact g1 h, fun h => by rw [kp 2 (by decide)] at h; exact g2 h, fun _ => rfl, fun h => by rw [kp 4 (by decide)] at h; exact g4 h, fun h => by rw [kp 5 (by decide)] at h; exact g5 h, fun h => by rw [kp 6 (by decide)] at h; exact g6 h, fun h => by rw [kp 7 (by decide)] at h; exact g7 h, fun h => by rw [kp 8 (by decide)] at h; exact g8 h, fun h => by rw [kp 9 (by decide)] at h; exact g9 h⟩
      simp [upB]
    · simp only [List.getElem?_toArray, List.getElem?_cons_succ, List.getElem?_cons_zero, Option.some.injEq] at ho
      subst ho
      have e3 := g3 (hdep ⟨3, .data⟩ (by simp) rfl)
      clear hdep
      refine wpOpIn_of rfl rfl ?_
      generalize hK : Nx7 (fun t : Nat → Value => #[p0, p1, p2, .pointer (some ⟨s, 0, none⟩), .pointer (some ⟨sw, 0, none⟩), p5, p6, .func (.func 73) #[] #[.pointer (some ⟨sw, 0, none⟩)], p8, p9, p10, p11, p12, p13, p14, p15, p16, p17, p18, p19, p20, p21, p22, p23, p24, p25, p26, p27, p28, p29, p30, p31, p32, p33, p34, p35, t 0, t 1, t 2, t 3, t 4, t 5, t 6, t 7, t 8, t 9, p46, p47, p48, p49, p50, p51, p52, p53, p54, p55, p56, p57, p58, p59, p60, p61, p62, p63, p64, p65, p66, p67]) W s sw n ad cap fr now f x A C (l.setIfInBounds 4 true) = K
      go_simp
      rw [← hK]
      refine ⟨upB t 4 (.int .i64 fr), ?_, hs', hB, fun h => by rw [kp 0 (by decide)] at h; exact g0 h, fun h => by rw [kp 1 (by decide)] at h; exact g1 h, fun h => by rw [kp 2 (by decide)] at h; exact g2 h, fun h => by rw [kp 3 (by decide)] at h; exact g3 h, fun _ => rfl, fun h => by rw [kp 5 (by decide)] at h; exact g5 h, fun h => by rw [kp 6 (by decide)] at h; exact g6 h, fun h => by rw [kp 7 (by decide)] at h; exact g7 h, fun h => by rw [kp 8 (by decide)] at h; exact g8 h, fun h => by rw [kp 9 (by decide)] at h; exact g9 h⟩
      simp [upB, e3]
    · simp only [List.getElem?_toArray, List.getElem?_cons_succ, List.getElem?_cons_zero, Option.some.injEq] at ho
      subst ho
      clear hdep
      refine wpOpIn_of rfl rfl ?_
      generalize hK : Nx7 (fun t : Nat → Value => #[p0, p1, p2, .pointer (some ⟨s, 0, none⟩), .pointer (some ⟨sw, 0, none⟩), p5, p6, .func (.func 73) #[] #[.pointer (some ⟨sw, 0, none⟩)], p8, p9, p10, p11, p12, p13, p14, p15, p16, p17, p18, p19, p20, p21, p22, p23, p24, p25, p26, p27, p28, p29, p30, p31, p32, p33, p34, p35, t 0, t 1, t 2, t 3, t 4, t 5, t 6, t 7, t 8, t 9, p46, p47, p48, p49, p50, p51, p52, p53, p54, p55, p56, p57, p58, p59, p60, p61, p62, p63, p64, p65, p66, p67]) W s sw n ad cap fr now f x A C (l.setIfInBounds 5 true) = K
      go_simp
      rw [← hK]
      refine ⟨upB t 5 (.pointer (some ⟨s, 0, none⟩)), ?_, hs', hB, fun h => by rw [kp 0 (by decide)] at h; exact g0 h, fun h => by rw [kp 1 (by decide)] at h; exact g1 h, fun h => by rw [kp 2 (by decide)] at h; exact g2 h, fun h => by rw [kp 3 (by decide)] at h; exact g3 h, fun h => by rw [kp 4 (by decide)] at h; exact g4 h, fun _ => rfl, fun h => by rw [kp 6 (by decide)] at h; exact g6 h, fun h => by rw [kp 7 (by decide)] at h; exact g7 h, fun h => by rw [kp 8 (by decide)] at h; exact g8 h, fun h => by rw [kp 9 (by decide)] at h; exact g9 h⟩
      simp [upB]
    · simp only [List.getElem?_toArray, List.getElem?_cons_succ, List.getElem?_cons_zero, Option.some.injEq] at ho
      subst ho
      have e5 := g5 (hdep ⟨5, .data⟩ (by simp) rfl)
      clear hdep
      refine wpOpIn_of rfl rfl ?_
      generalize hK : Nx7 (fun t : Nat → Value => #[p0, p1, p2, .pointer (some ⟨s, 0, none⟩), .pointer (some ⟨sw, 0, none⟩), p5, p6, .func (.func 73) #[] #[.pointer (some ⟨sw, 0, none⟩)], p8, p9, p10, p11, p12, p13, p14, p15, p16, p17, p18, p19, p20, p21, p22, p23, p24, p25, p26, p27, p28, p29, p30, p31, p32, p33, p34, p35, t 0, t 1, t 2, t 3, t 4, t 5, t 6, t 7, t 8, t 9, p46, p47, p48, p49, p50, p51, p52, p53, p54, p55, p56, p57, p58, p59, p60, p61, p62, p63, p64, p65, p66, p67]) W s sw n ad cap fr now f x A C (l.setIfInBounds 6 true) = K
      go_simp
      rw [← hK]
      refine ⟨upB t 6 (.int .i64 now), ?_, hs', hB, fun h => by rw [kp 0 (by decide)] at h; exact g0 h, fun h => by rw [kp 1 (by decide)] at h; exact g1 h, fun h => by rw [kp 2 (by decide)] at h; exact g2 h, fun h => by rw [kp 3 (by decide)] at h; exact g3 h, fun h => by rw [kp 4 (by decide)] at h; exact g4 h, fun h => by rw [kp 5 (by decide)] at h; exact g5 h, fun _ => rfl, fun h => by rw [kp 7 (by decide)] at h; exact g7 h, fun h => by rw [kp 8 (by decide)] at h; exact g8 h, fun h => by rw [kp 9 (by decide)] at h; exact g9 h⟩
      simp [upB, e5]
    · simp only [List.getElem?_toArray, List.getElem?_cons_succ, List.getElem?_cons_zero, Option.some.injEq] at ho
      subst ho
      have q2 := hdep ⟨2, .data⟩ (by simp) rfl
      have e4 := g4 (hdep ⟨4, .data⟩ (by simp) rfl)
      have e6 := g6 (hdep ⟨6, .data⟩ (by simp) rfl)
      clear hdep
      obtain ⟨R, e2, zR, hring⟩ := g2 q2
      have HRG := hid hring
      clear hring
      refine wpOpIn_of rfl rfl ?_
      generalize hK : Nx7 (fun t : Nat → Value => #[p0, p1, p2, .pointer (some ⟨s, 0, none⟩), .pointer (some ⟨sw, 0, none⟩), p5, p6, .func (.func 73) #[] #[.pointer (some ⟨sw, 0, none⟩)], p8, p9, p10, p11, p12, p13, p14, p15, p16, p17, p18, p19, p20, p21, p22, p23, p24, p25, p26, p27, p28, p29, p30, p31, p32, p33, p34, p35, t 0, t 1, t 2, t 3, t 4, t 5, t 6, t 7, t 8, t 9, p46, p47, p48, p49, p50, p51, p52, p53, p54, p55, p56, p57, p58, p59, p60, p61, p62, p63, p64, p65, p66, p67]) W s sw n ad cap fr now f x A C (l.setIfInBounds 7 true) = K
      go_simp
      refine ⟨fun _ => by omega, ?_⟩
      refine (between_in F _ (hall 48) hro _ _ _ _).mono ?_
      rintro e Y ⟨rfl, hw⟩
      have hY : Below X.heap.size X Y := by rw [hw]; exact ((below_alloc _ _).alloc (by simp) _).alloc (by simp; omega) _
      have yz : X.heap.size + 3 ≤ Y.heap.size := by rw [hw]; simp
      have bR : Boxed Y X.heap.size 79 (.pointer (some ⟨R, 0, none⟩)) := by
        rw [hw]; simpa using ((Boxed.new X 79 (.pointer (some ⟨R, 0, none⟩))).alloc _).alloc _
      have bA : Boxed Y (X.heap.size + 1) 3 (.int .i64 fr) := by
        have h := (Boxed.new (X.alloc (.cells #[.pointer (some ⟨R, 0, none⟩)] 79)) 3 (.int .i64 fr)).alloc (.cells #[.int .i64 now] 3)
        rw [World.size_alloc] at h
        rw [hw]; exact h
      have bU : Boxed Y (X.heap.size + 1 + 1) 3 (.int .i64 now) := by
        have h := Boxed.new ((X.alloc (.cells #[.pointer (some ⟨R, 0, none⟩)] 79)).alloc (.cells #[.int .i64 fr] 3)) 3 (.int .i64 now)
        rw [World.size_alloc, World.size_alloc] at h
        rw [hw]; exact h
      have zRX := HRG.out.room.lt
      rw [← hK]
      refine ⟨upB t 7 (.func (.func 104) #[] #[.pointer (some ⟨X.heap.size + 1, 0, none⟩), .pointer (some ⟨X.heap.size + 1 + 1, 0, none⟩), .pointer (some ⟨X.heap.size, 0, none⟩)]), ?_, hs', hB.trans (hY.mono hB.size), fun h => by rw [kp 0 (by decide)] at h; exact g0 h, fun h => by rw [kp 1 (by decide)] at h; exact g1 h, fun h => by rw [kp 2 (by decide)] at h; exact (g2 h).below hY, fun h => by rw [kp 3 (by decide)] at h; exact g3 h, fun h => by rw [kp 4 (by decide)] at h; exact g4 h, fun h => by rw [kp 5 (by decide)] at h; exact g5 h, fun h => by rw [kp 6 (by decide)] at h; exact g6 h, fun _ => ⟨R, X.heap.size, rfl, ⟨⟨zR, zRX⟩, HRG.out.below hY zRX (Nat.le_refl _), bR.cell, bA.cell, bU.cell, by omega⟩⟩, fun h => by rw [kp 8 (by decide)] at h; exact g8 h, fun h => by rw [kp 9 (by decide)] at h; exact (g9 h).below hY⟩
      simp [upB, e2, e4, e6]
    · simp only [List.getElem?_toArray, List.getElem?_cons_succ, List.getElem?_cons_zero, Option.some.injEq] at ho
      subst ho
      clear hdep
      refine wpOpIn_of rfl rfl ?_
      generalize hK : Nx7 (fun t : Nat → Value => #[p0, p1, p2, .pointer (some ⟨s, 0, none⟩), .pointer (some ⟨sw, 0, none⟩), p5, p6, .func (.func 73) #[] #[.pointer (some ⟨sw, 0, none⟩)], p8, p9, p10, p11, p12, p13, p14, p15, p16, p17, p18, p19, p20, p21, p22, p23, p24, p25, p26, p27, p28, p29, p30, p31, p32, p33, p34, p35, t 0, t 1, t 2, t 3, t 4, t 5, t 6, t 7, t 8, t 9, p46, p47, p48, p49, p50, p51, p52, p53, p54, p55, p56, p57, p58, p59, p60, p61, p62, p63, p64, p65, p66, p67]) W s sw n ad cap fr now f x A C (l.setIfInBounds 8 true) = K
      go_simp
      rw [← hK]
      refine ⟨upB t 8 (.func (.func 73) #[] #[.pointer (some ⟨sw, 0, none⟩)]), ?_, hs', hB, fun h => by rw [kp 0 (by decide)] at h; exact g0 h, fun h => by rw [kp 1 (by decide)] at h; exact g1 h, fun h => by rw [kp 2 (by decide)] at h; exact g2 h, fun h => by rw [kp 3 (by decide)] at h; exact g3 h, fun h => by rw [kp 4 (by decide)] at h; exact g4 h, fun h => by rw [kp 5 (by decide)] at h; exact g5 h, fun h => by rw [kp 6 (by decide)] at h; exact g6 h, fun h => by rw [kp 7 (by decide)] at h; exact g7 h, fun _ => rfl, fun h => by rw [kp 9 (by decide)] at h; exact g9 h⟩
      simp [upB]
    · simp only [List.getElem?_toArray, List.getElem?_cons_succ, List.getElem?_cons_zero, Option.some.injEq] at ho
      subst ho
      have q7 := hdep ⟨7, .data⟩ (by simp) rfl
      have e8 := g8 (hdep ⟨8, .data⟩ (by simp) rfl)
      clear hdep
      obtain ⟨R, b, e7, hbt⟩ := g7 q7
      have HBT := hid hbt
      clear hbt
      refine wpOpIn_of rfl rfl ?_
      generalize hK : Nx7 (fun t : Nat → Value => #[p0, p1, p2, .pointer (some ⟨s, 0, none⟩), .pointer (some ⟨sw, 0, none⟩), p5, p6, .func (.func 73) #[] #[.pointer (some ⟨sw, 0, none⟩)], p8, p9, p10, p11, p12, p13, p14, p15, p16, p17, p18, p19, p20, p21, p22, p23, p24, p25, p26, p27, p28, p29, p30, p31, p32, p33, p34, p35, t 0, t 1, t 2, t 3, t 4, t 5, t 6, t 7, t 8, t 9, p46, p47, p48, p49, p50, p51, p52, p53, p54, p55, p56, p57, p58, p59, p60, p61, p62, p63, p64, p65, p66, p67]) W s sw n ad cap fr now f x A C (l.setIfInBounds 9 true) = K
      go_simp
      refine ⟨fun _ => by omega, ?_⟩
      refine (filterMk_in F _ (hall 75) hro _ _ _).mono ?_
      rintro e Y ⟨rfl, hw⟩
      have hY : Below X.heap.size X Y := by rw [hw]; exact (below_alloc _ _).alloc (by simp) _
      have yz : X.heap.size + 2 ≤ Y.heap.size := by rw [hw]; simp
      have bA : Boxed Y X.heap.size 83 (.func (.func 104) #[] #[.pointer (some ⟨b + 1, 0, none⟩), .pointer (some ⟨b + 1 + 1, 0, none⟩), .pointer (some ⟨b, 0, none⟩)]) := by
        rw [hw]; exact (Boxed.new X 83 _).alloc _
      have bU : Boxed Y (X.heap.size + 1) 92 (.func (.func 73) #[] #[.pointer (some ⟨sw, 0, none⟩)]) := by
        have h := Boxed.new (X.alloc (.cells #[.func (.func 104) #[] #[.pointer (some ⟨b + 1, 0, none⟩), .pointer (some ⟨b + 1 + 1, 0, none⟩), .pointer (some ⟨b, 0, none⟩)]] 83)) 92 (.func (.func 73) #[] #[.pointer (some ⟨sw, 0, none⟩)])
        rw [World.size_alloc] at h
        rw [hw]; exact h
      have zb := HBT.out.lt
      rw [← hK]
      refine ⟨upB t 9 (.func (.func 118) #[] #[.pointer (some ⟨X.heap.size, 0, none⟩), .pointer (some ⟨X.heap.size + 1, 0, none⟩)]), ?_, hs', hB.trans (hY.mono hB.size), fun h => by rw [kp 0 (by decide)] at h; exact g0 h, fun h => by rw [kp 1 (by decide)] at h; exact g1 h, fun h => by rw [kp 2 (by decide)] at h; exact (g2 h).below hY, fun h => by rw [kp 3 (by decide)] at h; exact g3 h, fun h => by rw [kp 4 (by decide)] at h; exact g4 h, fun h => by rw [kp 5 (by decide)] at h; exact g5 h, fun h => by rw [kp 6 (by decide)] at h; exact g6 h, fun h => by rw [kp 7 (by decide)] at h; exact (g7 h).below hY, fun h => by rw [kp 8 (by decide)] at h; exact g8 h, fun _ => ⟨R, b, X.heap.size, rfl, HBT.out.below hY, zb, bA.cell, bU.cell, by omega⟩⟩
      simp [upB, e7, e8]
end Go.Proofs.YtkecnaaacbckoaaGreat
