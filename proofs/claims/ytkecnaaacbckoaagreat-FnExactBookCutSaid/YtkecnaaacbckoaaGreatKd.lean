import Derived.Test.YtkecnaaacbckoaaGreatKl
import Derived.Test.YtkecnaaacbckoaaGreatCa
import Derived.Maps.OwnIn
namespace Go.Proofs.YtkecnaaacbckoaaGreat
open Go.RowKit Go.Shelf
attribute [local go_sem] Oper.semAt_some
/-- an index of a list -/
abbrev Ix (n : Nat) := { k : Nat // k < n }
def chV (x : Ch) (a : Option Addr) (c : Nat) : Value := .agg #[.int .i64 x.ver, .bool x.gone, .string x.ob.kind, .string x.ob.name, .int .i64 x.ob.ver, .int .i64 x.ob.born, .string x.ob.text, .bool x.ob.ending, .slice a x.ob.hn c]
def ixs {n : Nat} (l : List (Ix n)) : List Nat := l.map (·.1)
theorem ixs_snoc {n : Nat} (l : List (Ix n)) (k : Ix n) : ixs (l ++ [k]) = ixs l ++ [k.1] := by simp [ixs]
theorem ixs_len {n : Nat} (l : List (Ix n)) : (ixs l).length = l.length := by simp [ixs]
set_option maxRecDepth 100000 in
set_option maxHeartbeats 1000000 in
theorem between_in (F : Fence) (m : Nat) (h23 : F.fn 48) (hro : F.round = none) (R : Nat) (ab up : Int) (w : World) :
    CallsIn F m Tryz.prog 48 #[.pointer (some ⟨R, 0, none⟩), .int .i64 ab, .int .i64 up] w fun e w' => e = .returned (.func (.func 104) #[] #[.pointer (some ⟨w.heap.size + 1, 0, none⟩), .pointer (some ⟨w.heap.size + 1 + 1, 0, none⟩), .pointer (some ⟨w.heap.size, 0, none⟩)]) ∧ w' = ((w.alloc (.cells #[.pointer (some ⟨R, 0, none⟩)] 79)).alloc (.cells #[.int .i64 ab] 3)).alloc (.cells #[.int .i64 up] 3) := by
  refine callsIn_of_wp Tryz.func48 rfl h23 ?_ hro
  simp only [Tryz.ntmps48, List.size_toArray, List.length_cons, List.length_nil, Nat.reduceAdd, Nat.reduceSub, Array.replicate_succ, Array.replicate_zero, List.push_toArray, List.append_toArray, List.nil_append, List.cons_append]
  gi_wp2
  go_ret
  exact ⟨rfl, rfl⟩
set_option maxRecDepth 100000 in
set_option maxHeartbeats 2000000 in
theorem between1_in (F : Fence) (m : Nat) (h58 : F.fn 104) (h56 : F.fn 102) (hro : F.round = none) (hm : 1 ≤ m) (l Ba Bu Br n₀ R : Nat) (f k n : Nat) (x : Nat → Ch) (A : Nat → Option Addr) (C : Nat → Nat) (hkn : k ≤ n) (hfn : f + n ≤ 1000000) (J Jx : List (Ix (n - k)) → World → Prop)
    (hPl : ∀ (v : Int) (w : World), 0 ≤ v → v ≤ 1000000 → CallsIn F (m - 1) Tryz.prog 102 #[.pointer (some ⟨R, 0, none⟩), .int .i64 v] w fun e w' => e = .returned (.pointer (some ⟨R, (v % 200).toNat * 9, none⟩)) ∧ w' = w)
    (W : World)
    (hY : ∀ pre x' W1, J pre W1 → pre.length < n - k → YieldAt F (m - 1) Tryz.prog l #[chV (x (k + x'.1)) (A (k + x'.1)) (C (k + x'.1))] W1 fun e W' =>
      (e = .returned (.bool true) ∧ J (pre ++ [x']) W' ∧ Below n₀ W1 W') ∨ (e = .returned (.bool false) ∧ Jx (pre ++ [x']) W'))
    (hBa : W.cell? ⟨Ba, 0, none⟩ = some (.int .i64 ((f + k : Nat) : Int))) (hBu : W.cell? ⟨Bu, 0, none⟩ = some (.int .i64 ((f + n : Nat) : Int))) (hBr : W.cell? ⟨Br, 0, none⟩ = some (.pointer (some ⟨R, 0, none⟩)))
    (hu : Bu < n₀) (hr : Br < n₀) (hR : R < n₀) (_hn₀ : n₀ ≤ W.heap.size) (hs : RingAt W R n f x A C) (h0 : J [] W) :
    CallsIn F m Tryz.prog 104 #[.func (.yield l) #[] #[], .pointer (some ⟨Ba, 0, none⟩), .pointer (some ⟨Bu, 0, none⟩), .pointer (some ⟨Br, 0, none⟩)] W fun e W' => (∃ v, e = .returned v) ∧
      ((∃ ys, ixs ys = List.range (n - k) ∧ J ys W') ∨ (∃ pre, True ∧ Jx pre W')) := by
  refine callsIn_of_wp Tryz.func104 rfl h58 ?_ hro
  simp only [Tryz.ntmps104, List.size_toArray, List.length_cons, List.length_nil, Nat.reduceAdd, Nat.reduceSub, Array.replicate_succ, Array.replicate_zero, List.push_toArray, List.append_toArray, List.nil_append, List.cons_append]
  have HS := hid hs
  clear hs
  gi_wp2
  gi_loopw [5] (fun i wr => ∃ (j : Nat) (pre : List (Ix (n - k))), j ≤ n - k ∧ i = .int .i64 ((f + k + 1 + j : Nat) : Int) ∧ ixs pre = List.range j ∧ J pre wr ∧ Below n₀ W wr)
    (fun i _ => f + n + 1 - (intOf i).toNat)
  case atStart => exact ⟨0, [], Nat.zero_le _, by go_num, rfl, h0, Below.refl _ _⟩
  case round =>
    obtain ⟨j, pre, hjn, rfl, hpre, hJs, hf⟩ := hrel
    have hcu : wr.cell? ⟨Bu, 0, none⟩ = some (.int .i64 ((f + n : Nat) : Int)) := (hf.cell (p := ⟨Bu, 0, none⟩) hu).trans hBu
    have hcr : wr.cell? ⟨Br, 0, none⟩ = some (.pointer (some ⟨R, 0, none⟩)) := (hf.cell (p := ⟨Br, 0, none⟩) hr).trans hBr
    by_cases hlt : j < n - k
    · have hpl : pre.length < n - k := by
        have h1 := ixs_len pre
        rw [hpre] at h1
        simp at h1
        omega
      obtain ⟨P, hP⟩ : ∃ P, (f + 1 + (k + j)) % 200 = P := ⟨_, rfl⟩
      have hc := (HS.out.at_ (k + j) (by omega)).below hf hR
      rw [hP] at hc
      obtain ⟨e0, e1, e2, e3, e4, e5, e6, e7, e8⟩ := hc
      have hver : ((((f + k + 1 + j : Nat) : Int)) % 200).toNat = P := by omega
      have hI := hPl ((f + k + 1 + j : Nat) : Int)
      rw [hver] at hI
      have HN := hid (show ixs (pre ++ [⟨j, hlt⟩]) = List.range (j + 1) by rw [ixs_snoc, hpre, List.range_succ])
      obtain ⟨fn, tmps, assign, body, hy, hRR⟩ := hY pre ⟨j, hlt⟩ wr hJs hpl
      unfold chV at hy
      dsimp only at hy
      clear hP
      gi_wp2_with (gi_at_call 102; go_must (refine (hI _ (by omega) (by omega)).mono ?_; rintro e w1 ⟨rfl, rfl⟩))
      refine hRR.mono ?_
      rintro e W3 (⟨rfl, hJ3, hk3⟩ | ⟨rfl, hJx3⟩)
      · gi_wp2
        go_roundw
        case rel => exact ⟨j + 1, pre ++ [⟨j, hlt⟩], by omega, by go_num, HN.out, hJ3, hf.trans hk3⟩
        case measure => simp [intOf]; omega
      · gi_wp2
        refine bodyPost_ret (results_none rfl _ _ _) rfl ?_
        exact ⟨⟨_, rfl⟩, .inr ⟨pre ++ [⟨j, hlt⟩], trivial, hJx3⟩⟩
    · obtain rfl : j = n - k := by omega
      gi_wp2
      go_end0
      exact ⟨⟨_, rfl⟩, .inl ⟨_, hpre, hJs⟩⟩
def pick {α : Type} (x : Nat → α) (l : List Nat) : Nat → α := fun j => x (l.getD j 0)
theorem pick_old {α : Type} {x : Nat → α} {l : List Nat} {k i : Nat} (h : i < l.length) : pick x (l ++ [k]) i = pick x l i := by
  unfold pick
  rw [List.getD_eq_getElem?_getD, List.getD_eq_getElem?_getD, List.getElem?_append_left h]
theorem pick_new {α : Type} {x : Nat → α} {l : List Nat} {k : Nat} : pick x (l ++ [k]) l.length = x k := by
  unfold pick
  simp
theorem pick_range {α : Type} {x : Nat → α} {n i : Nat} (h : i < n) : pick x (List.range n) i = x i := by
  unfold pick
  simp [List.getD_eq_getElem?_getD, h]
/-- a row of changes that is being built by appends: their holds lie elsewhere -/
structure RwCh (w : World) (base : Nat) (v : Value) (k : Nat) (x : Nat → Ch) (A : Nat → Option Addr) (C : Nat → Nat) : Prop where
  row : ∃ c, w.ownsRow base 75 9 v k (rowCells (k * 9) c) ∧ ∀ i, i < k → atCh c i (x i) (A i) (C i)
theorem RwCh.fr {w w' : World} {base : Nat} {v : Value} {k : Nat} {x : Nat → Ch} {A : Nat → Option Addr} {C : Nat → Nat} {P : Nat → Prop} (h : RwCh w base v k x A C) (hf : FrP P w w') (hp : ∀ q, base ≤ q → q < w.heap.size → ¬ P q) : RwCh w' base v k x A C := by
  obtain ⟨c, r, e⟩ := h.row
  exact ⟨⟨c, ownsRow_fr r hf (fun g hg => hp g (r.lt g hg).1 (r.lt g hg).2), e⟩⟩
theorem RwCh.grow {w w' : World} {base : Nat} {v : Value} {k : Nat} {x : Nat → Ch} {A : Nat → Option Addr} {C : Nat → Nat} (h : RwCh w base v k x A C) (hf : Below w.heap.size w w') : RwCh w' base v k x A C := h.fr (FrP.of_below (P := fun _ => False) hf) (fun _ _ _ h => h)
theorem RwCh.turn {w w' : World} {base : Nat} {v : Value} {k : Nat} {x : Nat → Ch} {A : Nat → Option Addr} {C : Nat → Nat} {row : Option Nat} (h : RwCh w base v k x A C) (hg : w.grownBy w' row) (hr : ∀ r, row = some r → ∃ o : Obj, w.heap[r]? = some o ∧ o.isCells = false) : RwCh w' base v k x A C := by
  obtain ⟨c, r, e⟩ := h.row
  refine ⟨⟨c, ownsRow_fr r (FrP.of_grown hg) (fun g hgb e2 => ?_), e⟩⟩
  rcases r.2 with ⟨h1, _⟩ | ⟨g', cap, cur, h1, h2, h3, h4⟩
  · rw [h1] at hgb; cases hgb
  · rw [h1] at hgb
    cases hgb
    obtain ⟨o, ho, hc⟩ := hr _ e2
    rw [h3] at ho
    cases ho
    cases hc
theorem RwCh.congr {w : World} {base : Nat} {v : Value} {k : Nat} {x y : Nat → Ch} {A B : Nat → Option Addr} {C E : Nat → Nat} (h : RwCh w base v k x A C) (e1 : ∀ i, i < k → x i = y i) (e2 : ∀ i, i < k → A i = B i) (e3 : ∀ i, i < k → C i = E i) : RwCh w base v k y B E := by
  obtain ⟨c, r, e⟩ := h.row
  exact ⟨⟨c, r, fun i hi => by rw [← e1 i hi, ← e2 i hi, ← e3 i hi]; exact e i hi⟩⟩
theorem RwCh.push {w' : World} {base : Nat} {v' : Value} {l : List Nat} {k : Nat} {x : Nat → Ch} {A : Nat → Option Addr} {C : Nat → Nat} {c : Nat → Value} (hat : ∀ i, i < l.length → atCh c i (pick x l i) (pick A l i) (pick C l i))
    (ho : w'.ownsRow base 75 9 v' (l.length + 1) (rowCells (l.length * 9) c ++ [.int .i64 (x k).ver, .bool (x k).gone, .string (x k).ob.kind, .string (x k).ob.name, .int .i64 (x k).ob.ver, .int .i64 (x k).ob.born, .string (x k).ob.text, .bool (x k).ob.ending, .slice (A k) (x k).ob.hn (C k)])) :
    RwCh w' base v' (l ++ [k]).length (pick x (l ++ [k])) (pick A (l ++ [k])) (pick C (l ++ [k])) := by
  have e : (l ++ [k]).length = l.length + 1 := by simp
  rw [e]
  refine ⟨⟨appF c (l.length * 9) [.int .i64 (x k).ver, .bool (x k).gone, .string (x k).ob.kind, .string (x k).ob.name, .int .i64 (x k).ob.ver, .int .i64 (x k).ob.born, .string (x k).ob.text, .bool (x k).ob.ending, .slice (A k) (x k).ob.hn (C k)], ?_, fun i hi => ?_⟩⟩
  · rw [rowCells_append] at ho
    have e2 : l.length * 9 + ([.int .i64 (x k).ver, .bool (x k).gone, .string (x k).ob.kind, .string (x k).ob.name, .int .i64 (x k).ob.ver, .int .i64 (x k).ob.born, .string (x k).ob.text, .bool (x k).ob.ending, .slice (A k) (x k).ob.hn (C k)] : List Value).length = (l.length + 1) * 9 := by show l.length * 9 + 9 = _; omega
    rw [e2] at ho
    exact ho
  · by_cases e1 : i = l.length
    · subst e1
      rw [pick_new, pick_new, pick_new]
      exact ⟨appF_zero _ _ _, appF_at _ _ _ 1, appF_at _ _ _ 2, appF_at _ _ _ 3, appF_at _ _ _ 4, appF_at _ _ _ 5, appF_at _ _ _ 6, appF_at _ _ _ 7, appF_at _ _ _ 8⟩
    · have hi' : i < l.length := by omega
      rw [pick_old hi', pick_old hi', pick_old hi']
      obtain ⟨a0, a1, a2, a3, a4, a5, a6, a7, a8⟩ := hat i hi'
      exact ⟨(if_pos (by omega)).trans a0, (if_pos (by omega)).trans a1, (if_pos (by omega)).trans a2, (if_pos (by omega)).trans a3, (if_pos (by omega)).trans a4, (if_pos (by omega)).trans a5, (if_pos (by omega)).trans a6, (if_pos (by omega)).trans a7, (if_pos (by omega)).trans a8⟩
set_option maxRecDepth 100000 in
set_option maxHeartbeats 4000000 in
theorem appendSeq_in (F : Fence) (m : Nat) (h57 : F.fn 103) (h58 : F.fn 104) (h56 : F.fn 102) (hro : F.round = none) (hm : 4 ≤ m)
    (hPl : ∀ (q : Nat) (R : Nat) (v : Int) (w : World), 0 ≤ v → v ≤ 1000000 → CallsIn F q Tryz.prog 102 #[.pointer (some ⟨R, 0, none⟩), .int .i64 v] w fun e w' => e = .returned (.pointer (some ⟨R, (v % 200).toNat * 9, none⟩)) ∧ w' = w)
    (Ba Bu Br R : Nat) (f k n : Nat) (x : Nat → Ch) (A : Nat → Option Addr) (C : Nat → Nat) (hkn : k ≤ n) (hn2 : n ≤ 200) (hfn : f + n ≤ 1000000) (w : World)
    (hBa : w.cell? ⟨Ba, 0, none⟩ = some (.int .i64 ((f + k : Nat) : Int))) (hBu : w.cell? ⟨Bu, 0, none⟩ = some (.int .i64 ((f + n : Nat) : Int))) (hBr : w.cell? ⟨Br, 0, none⟩ = some (.pointer (some ⟨R, 0, none⟩)))
    (ha : Ba < w.heap.size) (hu : Bu < w.heap.size) (hr : Br < w.heap.size) (hR : R < w.heap.size) (hs : RingAt w R n f x A C) :
    CallsIn F m Tryz.prog 103 #[.slice none 0 0, .func (.func 104) #[] #[.pointer (some ⟨Ba, 0, none⟩), .pointer (some ⟨Bu, 0, none⟩), .pointer (some ⟨Br, 0, none⟩)]] w fun e w' => ∃ v, e = .returned v ∧ RwCh w' (w.heap.size + 1) v (n - k) (fun i => x (k + i)) (fun i => A (k + i)) (fun i => C (k + i)) ∧ Below w.heap.size w w' := by
  have h1 : 1 ≤ m := by omega
  obtain ⟨i0, hi0, hz0, hz1, hz2⟩ := info_parts Tryz.info75
  refine callsIn_of_wp_marks Tryz.func103 rfl h57 ?_ hro
  simp only [Tryz.ntmps103, List.size_toArray, List.length_cons, List.length_nil, Nat.reduceAdd, Nat.reduceSub, Array.replicate_succ, Array.replicate_zero, List.push_toArray, List.append_toArray, List.nil_append, List.cons_append]
  gi_wp2
  obtain ⟨W0, hW0⟩ : ∃ W0, w.alloc (.cells #[.slice none 0 0] 29) = W0 := ⟨_, rfl⟩
  have hsz0 : W0.heap.size = w.heap.size + 1 := by rw [← hW0]; simp
  have hB0 : Below w.heap.size w W0 := by rw [← hW0]; exact below_alloc _ _
  have bS : Boxed W0 w.heap.size 29 (.slice none 0 0) := by rw [← hW0]; exact Boxed.new w 29 (.slice none 0 0)
  rw [hW0]
  clear hW0
  refine wpIn_rangeFunc_ownH (α := Ix (n - k)) hro h1 (gf := 104) (lb := #[.pointer (some ⟨Ba, 0, none⟩), .pointer (some ⟨Bu, 0, none⟩), .pointer (some ⟨Br, 0, none⟩)]) (encs := fun i => #[chV (x (k + i.1)) (A (k + i.1)) (C (k + i.1))]) (Kp := Below w.heap.size) (S := fun ys => ixs ys = List.range (n - k)) (Sp := fun _ => True) (N := n - k) (w0 := W0) rfl h58 (enters_of Tryz.func104 (by kernel_rfl) rfl)
    ?seq belowK_t (belowK_b (by omega)) (Below.refl _ _) (fun _ => rfl)
    (fun pre W => (∃ v, Boxed W w.heap.size 29 v ∧ RwCh W (w.heap.size + 1) v (ixs pre).length (pick (fun i => x (k + i)) (ixs pre)) (pick (fun i => A (k + i)) (ixs pre)) (pick (fun i => C (k + i)) (ixs pre))) ∧ Below w.heap.size w W)
    (fun _ _ _ => False) ?own (fun _ _ _ _ _ hs _ _ => hs) ?start
    (fun i a' W => ∃ Bx, w.heap.size + 1 ≤ Bx ∧ W.heap[Bx]? = some (.cells #[.int .i64 (x (k + i.1)).ver, .bool (x (k + i.1)).gone, .string (x (k + i.1)).ob.kind, .string (x (k + i.1)).ob.name, .int .i64 (x (k + i.1)).ob.ver, .int .i64 (x (k + i.1)).ob.born, .string (x (k + i.1)).ob.text, .bool (x (k + i.1)).ob.ending, .slice (A (k + i.1)) (x (k + i.1)).ob.hn (C (k + i.1))] 75 (0, 0)) ∧ a' = { tmps := #[.slice none 0 0, .func (.func 104) #[] #[.pointer (some ⟨Ba, 0, none⟩), .pointer (some ⟨Bu, 0, none⟩), .pointer (some ⟨Br, 0, none⟩)], .pointer (some ⟨w.heap.size, 0, none⟩), undef, .slice none 0 0, .pointer (some ⟨Bx, 0, none⟩), .func (.func 104) #[] #[.pointer (some ⟨Ba, 0, none⟩), .pointer (some ⟨Bu, 0, none⟩), .pointer (some ⟨Br, 0, none⟩)], chV (x (k + i.1)) (A (k + i.1)) (C (k + i.1)), undef, undef, undef, undef, undef], defers := [] })
    (fun i a' _ X Y row hs hg hr => by
      obtain ⟨Bx, e1, e2, e3⟩ := hs
      refine ⟨Bx, e1, (hg.block Bx (Array.getElem?_eq_some_iff.1 e2).1 (fun e => ?_)).trans e2, e3⟩
      obtain ⟨_, o, ho, hc⟩ := hr Bx e.symm
      rw [e2] at ho
      cases ho
      cases hc)
    ?assign ?body ?done ?stop
  case seq =>
    exact fun l J Jx W hW _ _ hY h0 => between1_in F (m - 1) h58 h56 hro (by omega) l Ba Bu Br w.heap.size R f k n x A C hkn hfn J Jx (hPl _ R) W hY
      (((hB0.trans (hW.mono (by omega))).cell (p := ⟨Ba, 0, none⟩) ha).trans hBa) (((hB0.trans (hW.mono (by omega))).cell (p := ⟨Bu, 0, none⟩) hu).trans hBu) (((hB0.trans (hW.mono (by omega))).cell (p := ⟨Br, 0, none⟩) hr).trans hBr)
      hu hr hR (by have := hW.size; omega) (hs.below (hB0.trans (hW.mono (by omega))) hR (Nat.le_refl _)) h0
  case own =>
    intro pre X Y row hs hg hr
    obtain ⟨⟨v, e1, e2⟩, e3⟩ := hs
    exact ⟨⟨v, e1.kept hg (fun e => by have := (hr _ e.symm).1; omega), e2.turn hg (fun r e => (hr r e).2)⟩, e3.grown hg e3.size (fun r e => by have := (hr r e).1; omega)⟩
  case start =>
    exact ⟨⟨_, bS, ⟨⟨fun _ => .int .i64 0, World.ownsRow_nil _ _ _ _, fun i hi' => absurd hi' (Nat.not_lt_zero _)⟩⟩⟩, hB0⟩
  case assign =>
    rintro l pre i W K ⟨⟨v, e1, e2⟩, e3⟩ hK
    simp only [chV]
    gi_wp2
    have z := e1.lt
    exact hK _ _ ((KeepsOthers.alloc _ _).from _) ((Below.refl _ W).alloc e3.size _) ⟨⟨v, e1.alloc _, e2.grow (below_alloc _ _)⟩, e3.alloc e3.size _⟩ ⟨W.heap.size, by omega, World.alloc_heap_new W _, rfl⟩
  case body =>
    rintro l0 pre i a' W hl ⟨r, hr'⟩ ⟨⟨v, bV, rw⟩, hB⟩ ⟨Bx, hBx, bX, rfl⟩ hlt
    have hX : Holds W Bx #[.int .i64 (x (k + i.1)).ver, .bool (x (k + i.1)).gone, .string (x (k + i.1)).ob.kind, .string (x (k + i.1)).ob.name, .int .i64 (x (k + i.1)).ob.ver, .int .i64 (x (k + i.1)).ob.born, .string (x (k + i.1)).ob.text, .bool (x (k + i.1)).ob.ending, .slice (A (k + i.1)) (x (k + i.1)).ob.hn (C (k + i.1))] := fun i => by simp [World.cell?, bX]
    have x0 := hX 0; have x1 := hX 1; have x2 := hX 2; have x3 := hX 3; have x4 := hX 4; have x5 := hX 5; have x6 := hX 6; have x7 := hX 7; have x8 := hX 8
    simp only [List.getElem?_toArray, List.getElem?_cons_succ, List.getElem?_cons_zero] at x0 x1 x2 x3 x4 x5 x6 x7 x8
    have cV := bV.cell
    have zV := bV.lt
    have rw1 := rw.grow (below_alloc W (.cells #[.int .i64 (x (k + i.1)).ver, .bool (x (k + i.1)).gone, .string (x (k + i.1)).ob.kind, .string (x (k + i.1)).ob.name, .int .i64 (x (k + i.1)).ob.ver, .int .i64 (x (k + i.1)).ob.born, .string (x (k + i.1)).ob.text, .bool (x (k + i.1)).ob.ending, .slice (A (k + i.1)) (x (k + i.1)).ob.hn (C (k + i.1))] 75))
    obtain ⟨c, hown, hat⟩ := rw1.row
    have hln : (ixs pre).length < 200 := by rw [ixs_len]; omega
    have hrow : ∀ g, v.ownBlock = some g → w.heap.size + 1 ≤ g := fun g hg => (hown.lt _ hg).1
    have HAT := hid hat
    have HKO := hid (show ∀ w1, (W.alloc (.cells #[.int .i64 (x (k + i.1)).ver, .bool (x (k + i.1)).gone, .string (x (k + i.1)).ob.kind, .string (x (k + i.1)).ob.name, .int .i64 (x (k + i.1)).ob.ver, .int .i64 (x (k + i.1)).ob.born, .string (x (k + i.1)).ob.text, .bool (x (k + i.1)).ob.ending, .slice (A (k + i.1)) (x (k + i.1)).ob.hn (C (k + i.1))] 75)).grownBy w1 v.ownBlock → KeepsOthers (W.alloc (.cells #[.int .i64 (x (k + i.1)).ver, .bool (x (k + i.1)).gone, .string (x (k + i.1)).ob.kind, .string (x (k + i.1)).ob.name, .int .i64 (x (k + i.1)).ob.ver, .int .i64 (x (k + i.1)).ob.born, .string (x (k + i.1)).ob.text, .bool (x (k + i.1)).ob.ending, .slice (A (k + i.1)) (x (k + i.1)).ob.hn (C (k + i.1))] 75)) w1 from fun w1 hg => KeepsOthers.of_grownBy hg (fun j o e hj => by
      rcases hown.2 with ⟨h1, _⟩ | ⟨g', cap, cur, h1, h2', h3, h4⟩
      · rw [h1] at e; cases e
      · rw [h1] at e
        cases e
        rw [h3] at hj
        cases hj
        rfl))
    clear hat hX
    unfold chV
    gi_wp2_with (gi_at_builtin; go_must (refine wpListIn_append_own_at _ rfl _ _ 29 rfl (w.heap.size + 1) 75 i0 _ 9 112 Tryz.underlying29 hi0 hz0 hz1 hz2 rfl (by decide) _ (ixs pre).length (rowCells ((ixs pre).length * 9) c) rfl hown ⟨W.heap.size, 0, none⟩ 1 1 [.int .i64 (x (k + i.1)).ver, .bool (x (k + i.1)).gone, .string (x (k + i.1)).ob.kind, .string (x (k + i.1)).ob.name, .int .i64 (x (k + i.1)).ob.ver, .int .i64 (x (k + i.1)).ob.born, .string (x (k + i.1)).ob.text, .bool (x (k + i.1)).ob.ending, .slice (A (k + i.1)) (x (k + i.1)).ob.hn (C (k + i.1))] rfl rfl (alloc_news W _ 75) (by simp [Value.oneCell']) (by unfold maxLen; omega) (by omega) (by simp; omega) ?_; intro v' w1 hown2 hgrow2 hnil2 hat2; obtain ⟨g', cap', rfl⟩ := ownsRow_succ hown2; have bx2 : Boxed w1 w.heap.size 29 v := (bV.alloc _).kept hgrow2 (fun e => by have := hrow _ e.symm; omega); have cb := bx2.cell; have fb := bx2.frozen; have RW2 := hid (RwCh.push (k := i.1) (x := fun i => x (k + i)) (A := fun i => A (k + i)) (C := fun i => C (k + i)) HAT.out hown2); have KW2 := hid (HKO.out _ hgrow2); have FR2 := hid (FrP.of_grown hgrow2)))
    have B1 : Below w.heap.size W w1 := ((Below.refl _ W).alloc hB.size _).trans (FR2.out.below (fun q hq e => by have := hrow q e; omega) (by simp; omega))
    exact ⟨(((KeepsOthers.alloc _ _).trans KW2.out).trans (KeepsOthers.setCell _ _ _)).from _, B1.setCell (p := ⟨w.heap.size, 0, none⟩) (Nat.le_refl _) _, ⟨⟨_, bx2.set _, by rw [ixs_snoc]; exact RW2.out.fr (P := fun q => q = w.heap.size) (FrP.setCell (P := fun q => q = w.heap.size) (FrP.refl _ _) (p := ⟨w.heap.size, 0, none⟩) (by rfl) _) (fun q hq _ e => by omega)⟩, hB.trans (B1.setCell (p := ⟨w.heap.size, 0, none⟩) (Nat.le_refl _) _)⟩⟩
  case done =>
    rintro D ys W hD hS ⟨⟨v, bV, rw⟩, hB⟩ hK
    have rwf : RwCh (W.putObj D (.deferred none)) (w.heap.size + 1) v (ixs ys).length (pick (fun i => x (k + i)) (ixs ys)) (pick (fun i => A (k + i)) (ixs ys)) (pick (fun i => C (k + i)) (ixs ys)) := rw.turn (grownBy_putObj' W D (.deferred none)) (fun r e => by cases e; exact ⟨_, hK, rfl⟩)
    rw [hS, List.length_range] at rwf
    have RW := hid (rwf.congr (y := fun i => x (k + i)) (B := fun i => A (k + i)) (E := fun i => C (k + i)) (fun i hi => pick_range hi) (fun i hi => pick_range hi) (fun i hi => pick_range hi))
    have hBf : Below w.heap.size w (W.putObj D (.deferred none)) := hB.trans (belowK_b (w := W0) (n₀ := w.heap.size) (by omega) W D _ _ hD hK rfl rfl)
    have cV := bV.cell
    clear rw rwf
    gi_wp2
    refine ⟨by simp, .inl ⟨_, _, rfl, run_takeDeferred hK, ?_⟩⟩
    exact ⟨_, results_tmp rfl _ _ _, v, rfl, RW.out, hBf⟩
  case stop =>
    rintro D c pre W _ _ h _
    exact h.elim
end Go.Proofs.YtkecnaaacbckoaaGreat
