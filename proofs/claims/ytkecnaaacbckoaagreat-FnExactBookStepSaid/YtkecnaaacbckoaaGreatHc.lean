import Derived.Test.YtkecnaaacbckoaaGreatCc
import Derived.Test.YtkecnaaacbckoaaGreatY
namespace Go.Proofs.YtkecnaaacbckoaaGreat
open Go.RowKit Go.Shelf Go.Maps
attribute [local go_sem] Oper.semAt_some
theorem run_makeMap_none (w : World) : (Instr.makeMap 94 none).run Tryz.prog w = .ok (.map (some w.heap.size)) (w.alloc (.map #[] 0)) := by
  simp [Instr.makeMap, Result.andThen]
theorem lst_congr {h g : Nat → Ch} {a b : ByteArray} : ∀ {n : Nat}, (∀ i, i < n → h i = g i) → lst h a b n = lst g a b n
  | 0, _ => rfl
  | n + 1, e => by
    have e1 := e n (Nat.lt_succ_self _)
    have e2 := lst_congr (a := a) (b := b) (fun i hi => e i (Nat.lt_succ_of_lt hi))
    unfold lst
    rw [e1, e2]
/-- the map D tells the version of the last change of each kind and name, among the first n -/
def QTold (h : Nat → Ch) (n : Nat) (D : DataW Unit) : Prop := ∀ a b : ByteArray, a.size ≤ maxLen → b.size ≤ maxLen →
  (∀ i, lst h a b n = some i → Maps.has D (kl a b) = true ∧ D.atKey (kl a b) (.lit (.int .i64 0)) = .lit (.int .i64 (h i).ver)) ∧ (lst h a b n = none → Maps.has D (kl a b) = false)
theorem qtold_start (h : Nat → Ch) : QTold h 0 (.map []) := fun a b _ _ => ⟨fun i h => (by cases h), fun _ => rfl⟩
theorem QTold.congr {h g : Nat → Ch} {n : Nat} {D : DataW Unit} (ht : QTold h n D) (e : ∀ i, i < n → h i = g i) : QTold g n D := fun a b ha hb => by
  obtain ⟨h1, h2⟩ := ht a b ha hb
  rw [lst_congr e] at h2
  refine ⟨fun i hi => ?_, h2⟩
  have h3 := h1 i ((lst_congr e).trans hi)
  rw [e i (lst_lt hi).1] at h3
  exact h3
theorem qtold_put {h : Nat → Ch} {n : Nat} {D : DataW Unit} (ht : QTold h n D) (hD : IsMap D) (hk : (h n).ob.kind.size ≤ maxLen) (hn : (h n).ob.name.size ≤ maxLen) : QTold h (n + 1) (D.put (kl (h n).ob.kind (h n).ob.name) (.lit (.int .i64 (h n).ver))) := fun a b ha hb => by
  by_cases hh : (h n).ob.kind = a ∧ (h n).ob.name = b
  · obtain ⟨rfl, rfl⟩ := hh
    refine ⟨fun j hj => ?_, fun hj => ?_⟩
    · rw [lst_hit ⟨rfl, rfl⟩] at hj
      cases hj
      exact ⟨has_put_same hD (kl_key _ _ hk hn) _, atKey_put_same hD (kl_key _ _ hk hn) _ _⟩
    · rw [lst_hit ⟨rfl, rfl⟩] at hj; cases hj
  · have hne : kl a b ≠ kl (h n).ob.kind (h n).ob.name := kl_ne ha hb hk hn (fun e => hh ⟨e.1.symm, e.2.symm⟩)
    rw [has_put_other hne, atKey_put_other hne, lst_miss hh]
    exact ht a b ha hb
theorem qtold_snoc {x : Nat → Ch} {L : List Nat} {k : Nat} {D : DataW Unit} (ht : QTold (pick x L) L.length D) (hD : IsMap D) (hk : (x k).ob.kind.size ≤ maxLen) (hn : (x k).ob.name.size ≤ maxLen) : QTold (pick x (L ++ [k])) (L ++ [k]).length (D.put (kl (x k).ob.kind (x k).ob.name) (.lit (.int .i64 (x k).ver))) := by
  have e : (L ++ [k]).length = L.length + 1 := by simp
  rw [e]
  have h1 : QTold (pick x (L ++ [k])) L.length D := ht.congr (fun i hi => (pick_old hi).symm)
  have e2 : pick x (L ++ [k]) L.length = x k := pick_new
  have h2 := qtold_put h1 hD (by rw [e2]; exact hk) (by rw [e2]; exact hn)
  rw [e2] at h2
  exact h2
theorem operIn_mapUpdate_own {F : Fence} {nF : Nat} {P : Program} {o : Oper} {a : Act} {w : World} {K : Act → World → Prop} {Q : Exit → Act → World → Prop} {H : Type}
    (m x v : Operand) (t : TypeId) (hop : o.op = Op.mapUpdate t m x v)
    (k e : TypeId) (K' : Keyed P k) (ht : P.underlying t = some (.map k e)) (R : Value → Option (DataW H × List MemPlace)) (b n : Nat) (D : DataW H)
    (hm : a.eval m = .map (some b)) (hown : w.ownsMap P k R b n D) (hn : n < maxLen) (key val : Value) (kl : Lit) (hx : a.eval x = key) (hv : a.eval v = val) (hkey : keyOf P k key = some kl)
    (d : DataW H) (ps : List MemPlace) (hval : R val = some (d, ps))
    (hK : ∀ w', w'.ownsMap P k R b (n + 1) (D.put kl d) → w.grownBy w' (some b) → K (a.put o.dst undef) w') : o.wpIn F nF P a w K Q := by
  obtain ⟨w', hrun, r1, r2⟩ := hown.update K' ht hn hkey hval
  unfold Oper.wpIn
  refine ⟨by simp [Oper.about, hop], ?_⟩
  rw [Oper.semAt_plain F _ _ (by rw [hop]; intro c hc'; cases hc')]
  simp [execOp, hop, hm, hx, hv, hrun, Result.andThen]
  exact hK w' r1 r2
theorem listed_no {l : Array Bool} {i j : Nat} (h : l.getD i false = true → l.getD j false = true) (hj : l.getD j false = false) : l.getD i false = false := by
  cases hi : l.getD i false with
  | false => rfl
  | true => rw [h hi] at hj; cases hj
theorem Boxed.of_below {W W' : World} {B : Nat} {t : TypeId} {v : Value} (h : Boxed W B t v) (hb : Below W.heap.size W W') : Boxed W' B t v := (hb.block B h.lt).trans h
def LInv (mk : Value → Value → Value → Value → Value → Value → Array Value) (W : World) (v0 v1 v2 v3 v4 v5 : Value) (Fin : World → Prop) (l : Array Bool) (a : Act) (w' : World) : Prop :=
  ∃ (t0 t1 t2 t3 t4 t5 : Value), a = ⟨mk t0 t1 t2 t3 t4 t5, []⟩ ∧ l.size = 7 ∧
    (l.getD 2 false = true → l.getD 1 false = true) ∧ (l.getD 3 false = true → l.getD 2 false = true) ∧ (l.getD 5 false = true → l.getD 4 false = true) ∧ (l.getD 6 false = true → l.getD 0 false = true) ∧ (l.getD 6 false = true → l.getD 3 false = true) ∧ (l.getD 6 false = true → l.getD 5 false = true) ∧
    (l.getD 0 false = true → t0 = v0) ∧ (l.getD 1 false = true → t1 = v1) ∧ (l.getD 2 false = true → t2 = v2) ∧ (l.getD 3 false = true → t3 = v3) ∧ (l.getD 4 false = true → t4 = v4) ∧ (l.getD 5 false = true → t5 = v5) ∧
    (l.getD 6 false = false → Below W.heap.size W w') ∧ (l.getD 6 false = true → Fin w')
set_option maxRecDepth 100000 in
set_option maxHeartbeats 4000000 in
theorem lastVers_in (F : Fence) (m : Nat) (hcv : ∀ (k f : Nat) (args : Array Value) (w : World) (R : Ending → World → Prop), Calls Tryz.prog f args w R → CallsIn F k Tryz.prog f args w R) (h28 : F.fn 61) (h31 : F.fn 63) (h63 : F.fn 104) (h62 : F.fn 102) (hro : F.round = none) (hm : 4 ≤ m)
    (hPl : ∀ (q : Nat) (R : Nat) (v : Int) (w : World), 0 ≤ v → v ≤ 1000000 → CallsIn F q Tryz.prog 102 #[.pointer (some ⟨R, 0, none⟩), .int .i64 v] w fun e w' => e = .returned (.pointer (some ⟨R, (v % 200).toNat * 9, none⟩)) ∧ w' = w)
    (Ba Bu Br R : Nat) (f k n : Nat) (x : Nat → Ch) (A : Nat → Option Addr) (C : Nat → Nat) (hkn : k ≤ n) (hn2 : n ≤ 200) (hfn : f + n ≤ 1000000) (hfit : ∀ i, i < n → ObFit (x i).ob) (hwfs : ∀ i, i < n → (Lit.int .i64 (x i).ver).wf = true) (w : World)
    (hBa : w.cell? ⟨Ba, 0, none⟩ = some (.int .i64 ((f + k : Nat) : Int))) (hBu : w.cell? ⟨Bu, 0, none⟩ = some (.int .i64 ((f + n : Nat) : Int))) (hBr : w.cell? ⟨Br, 0, none⟩ = some (.pointer (some ⟨R, 0, none⟩)))
    (ha : Ba < w.heap.size) (hu : Bu < w.heap.size) (hr : Br < w.heap.size) (hR : R < w.heap.size) (hs : RingAt w R n f x A C) :
    CallsIn F m Tryz.prog 61 #[.func (.func 104) #[] #[.pointer (some ⟨Ba, 0, none⟩), .pointer (some ⟨Bu, 0, none⟩), .pointer (some ⟨Br, 0, none⟩)]] w fun e w' => ∃ D : DataW Unit, e = .returned (.map (some w.heap.size)) ∧ w'.ownsMap Tryz.prog 98 (plainElem Tryz.prog 3) w.heap.size (n - k) D ∧ QTold (fun i => x (k + i)) (n - k) D ∧ Below w.heap.size w w' := by
  have h1 : 1 ≤ m := by omega
  have hmm := run_makeMap_none w
  refine callsIn_of_wp_marks Tryz.func61 rfl h28 ?_ hro
  simp only [Tryz.ntmps61, List.size_toArray, List.length_cons, List.length_nil, Nat.reduceAdd, Nat.reduceSub, Array.replicate_succ, Array.replicate_zero, List.push_toArray, List.append_toArray, List.nil_append, List.cons_append]
  gi_wp2
  clear hmm
  obtain ⟨W0, hW0⟩ : ∃ W0, (w.alloc (.map #[] 0)).alloc (.cells #[.map (some w.heap.size)] 94) = W0 := ⟨_, rfl⟩
  have hsz0 : W0.heap.size = w.heap.size + 2 := by rw [← hW0]; simp
  have hB0 : Below w.heap.size w W0 := by rw [← hW0]; exact (below_alloc _ _).alloc (by simp) _
  have bM : Boxed W0 (w.heap.size + 1) 94 (.map (some w.heap.size)) := by
    have h := Boxed.new (w.alloc (.map #[] 0)) 94 (.map (some w.heap.size))
    rw [hW0] at h; simpa using h
  have oM : W0.ownsMap Tryz.prog 98 (plainElem Tryz.prog 3) w.heap.size 0 (.map [] : DataW Unit) := by rw [← hW0]; exact (World.ownsMap_made _ _ _ _).alloc _
  rw [hW0]
  clear hW0
  refine wpIn_rangeFunc_ownH (α := Ix (n - k)) hro h1 (gf := 104) (lb := #[.pointer (some ⟨Ba, 0, none⟩), .pointer (some ⟨Bu, 0, none⟩), .pointer (some ⟨Br, 0, none⟩)]) (encs := fun i => #[chV (x (k + i.1)) (A (k + i.1)) (C (k + i.1))]) (Kp := Below w.heap.size) (S := fun ys => ixs ys = List.range (n - k)) (Sp := fun _ => True) (N := n - k) (w0 := W0) rfl h63 (enters_of Tryz.func104 (by kernel_rfl) rfl)
    ?seq belowK_t (belowK_b (by omega)) (Below.refl _ _) (fun _ => rfl)
    (fun pre W => (∃ D : DataW Unit, W.ownsMap Tryz.prog 98 (plainElem Tryz.prog 3) w.heap.size (ixs pre).length D ∧ QTold (pick (fun i => x (k + i)) (ixs pre)) (ixs pre).length D) ∧ Boxed W (w.heap.size + 1) 94 (.map (some w.heap.size)) ∧ Below w.heap.size w W ∧ W0.heap.size ≤ W.heap.size)
    (fun _ _ _ => False) ?own (fun _ _ _ _ _ hs _ _ => hs) ?start
    (fun i a' W => ∃ Bx, W.heap[Bx]? = some (.cells #[.int .i64 (x (k + i.1)).ver, .bool (x (k + i.1)).gone, .string (x (k + i.1)).ob.kind, .string (x (k + i.1)).ob.name, .int .i64 (x (k + i.1)).ob.ver, .int .i64 (x (k + i.1)).ob.born, .string (x (k + i.1)).ob.text, .bool (x (k + i.1)).ob.ending, .slice (A (k + i.1)) (x (k + i.1)).ob.hn (C (k + i.1))] 75 (0, 0)) ∧ a' = { tmps := #[.func (.func 104) #[] #[.pointer (some ⟨Ba, 0, none⟩), .pointer (some ⟨Bu, 0, none⟩), .pointer (some ⟨Br, 0, none⟩)], undef, .map none, .pointer (some ⟨w.heap.size + 1, 0, none⟩), .pointer (some ⟨Bx, 0, none⟩), .map (some w.heap.size), .func (.func 104) #[] #[.pointer (some ⟨Ba, 0, none⟩), .pointer (some ⟨Bu, 0, none⟩), .pointer (some ⟨Br, 0, none⟩)], chV (x (k + i.1)) (A (k + i.1)) (C (k + i.1)), undef, undef, undef, undef, undef, undef, undef], defers := [] })
    (fun i a' _ X Y row hs hg hr => by
      obtain ⟨Bx, e2, e3⟩ := hs
      refine ⟨Bx, (hg.block Bx (Array.getElem?_eq_some_iff.1 e2).1 (fun e => ?_)).trans e2, e3⟩
      obtain ⟨_, o, ho, hc⟩ := hr Bx e.symm
      rw [e2] at ho
      cases ho
      cases hc)
    ?assign ?body ?done ?stop
  case seq =>
    exact fun l J Jx W hW _ _ hY h0 => between1_in F (m - 1) h63 h62 hro (by omega) l Ba Bu Br w.heap.size R f k n x A C hkn hfn J Jx (hPl _ R) W hY
      (((hB0.trans (hW.mono (by omega))).cell (p := ⟨Ba, 0, none⟩) ha).trans hBa) (((hB0.trans (hW.mono (by omega))).cell (p := ⟨Bu, 0, none⟩) hu).trans hBu) (((hB0.trans (hW.mono (by omega))).cell (p := ⟨Br, 0, none⟩) hr).trans hBr)
      hu hr hR (by have := hW.size; omega) (hs.below (hB0.trans (hW.mono (by omega))) hR (Nat.le_refl _)) h0
  case own =>
    intro pre X Y row hs hg hr
    obtain ⟨⟨D, e1, e2⟩, e3, e4, e5⟩ := hs
    exact ⟨⟨D, ownsMap_below e1 ((Below.refl W0.heap.size X).grown hg e5 (fun r e => (hr r e).1)) (by omega), e2⟩, e3.kept hg (fun e => by have := (hr _ e.symm).1; omega), e4.grown hg e4.size (fun r e => by have := (hr r e).1; omega), Nat.le_trans e5 hg.size⟩
  case start =>
    exact ⟨⟨.map [], oM, qtold_start _⟩, bM, hB0, Nat.le_refl _⟩
  case assign =>
    rintro l pre i W K ⟨⟨D, e1, e2⟩, e3, e4, e5⟩ hK
    simp only [chV]
    gi_wp2
    exact hK _ _ ((KeepsOthers.alloc _ _).from _) ((Below.refl _ W).alloc e4.size _) ⟨⟨D, e1.alloc _, e2⟩, e3.alloc _, e4.alloc e4.size _, by simp; omega⟩ ⟨W.heap.size, World.alloc_heap_new W _, rfl⟩
  case body =>
    rintro l0 pre i a' W hl ⟨r, hr'⟩ ⟨⟨D, hown, htold⟩, bV, hB, hW0s⟩ ⟨Bx, bX, rfl⟩ hlt
    have hX : Holds W Bx #[.int .i64 (x (k + i.1)).ver, .bool (x (k + i.1)).gone, .string (x (k + i.1)).ob.kind, .string (x (k + i.1)).ob.name, .int .i64 (x (k + i.1)).ob.ver, .int .i64 (x (k + i.1)).ob.born, .string (x (k + i.1)).ob.text, .bool (x (k + i.1)).ob.ending, .slice (A (k + i.1)) (x (k + i.1)).ob.hn (C (k + i.1))] := fun i => by simp [World.cell?, bX]
    have zBx : Bx < W.heap.size := (Array.getElem?_eq_some_iff.1 bX).1
    obtain ⟨fk, fn, _, _, _⟩ := hfit (k + i.1) (by have := i.2; omega)
    have hsk : (x (k + i.1)).ob.kind.size ≤ maxLen := by unfold maxLen; omega
    have hsn : (x (k + i.1)).ob.name.size ≤ maxLen := by unfold maxLen; omega
    have hky := hkey (x (k + i.1)).ob.kind (x (k + i.1)).ob.name hsk hsn
    have hwf := hwfs (k + i.1) (by have := i.2; omega)
    have HT := hid (qtold_snoc (k := i.1) htold hown.isMap hsk hsn)
    have hzW := hB.size
    have h1' : 1 ≤ m - 1 - 1 := by omega
    clear htold fk fn
    obtain ⟨Fin, hFin⟩ : ∃ Fin : World → Prop, Fin = fun w6 => w6.ownsMap Tryz.prog 98 (plainElem Tryz.prog 3) w.heap.size ((ixs pre).length + 1) (D.put (kl (x (k + i.1)).ob.kind (x (k + i.1)).ob.name) (.lit (.int .i64 (x (k + i.1)).ver))) ∧ Boxed w6 (w.heap.size + 1) 94 (.map (some w.heap.size)) ∧ KeepsFrom W0.heap.size W w6 ∧ Below w.heap.size W w6 ∧ W0.heap.size ≤ w6.heap.size := ⟨_, rfl⟩
    gi_wp2
    refine wpIn_region_inv (by kernel_rfl) (LInv (fun t0 t1 t2 t3 t4 t5 => #[.func (.func 104) #[] #[.pointer (some ⟨Ba, 0, none⟩), .pointer (some ⟨Bu, 0, none⟩), .pointer (some ⟨Br, 0, none⟩)], undef, .map none, .pointer (some ⟨w.heap.size + 1, 0, none⟩), .pointer (some ⟨Bx, 0, none⟩), .map (some w.heap.size), .func (.func 104) #[] #[.pointer (some ⟨Ba, 0, none⟩), .pointer (some ⟨Bu, 0, none⟩), .pointer (some ⟨Br, 0, none⟩)], chV (x (k + i.1)) (A (k + i.1)) (C (k + i.1)), t0, t1, t2, t3, t4, t5, undef]) W (.map (some w.heap.size)) (.pointer (some ⟨Bx, 2, none⟩)) (obV (x (k + i.1)).ob (A (k + i.1)) (C (k + i.1))) (.agg #[.string (x (k + i.1)).ob.kind, .string (x (k + i.1)).ob.name]) (.pointer (some ⟨Bx, 0, none⟩)) (.int .i64 (x (k + i.1)).ver) Fin) ?_ ?_ ?_ ?_
    · refine ⟨_, _, _, _, _, _, rfl, by simp, ?_⟩
      simp
      exact (Below.refl _ W).drew
    · intro l a w' hI
      obtain ⟨t0, t1, t2, t3, t4, t5, rfl, hls, _⟩ := hI
      exact hls
    · intro l a w' hI hr'
      obtain ⟨t0, t1, t2, t3, t4, t5, rfl, hls, n21, n32, n54, n60, n63, n65, f0, f1, f2, f3, f4, f5, g6, g7⟩ := hI
      have AL := all_listed (by kernel_rfl) (by rw [hls]; rfl) hr'
      have hF := g7 (AL 6 (by decide))
      rw [hFin] at hF
      obtain ⟨j1, j2, j3, j4, j5⟩ := hF
      clear n21 n32 n54 n60 n63 n65 f0 f1 f2 f3 f4 f5 g6 g7 AL hr' hls
      gi_wp2
      refine ⟨j3, j4, ⟨_, ?_, by rw [ixs_snoc]; exact HT.out⟩, j2, hB.trans j4, j5⟩
      rw [ixs_snoc, List.length_append]
      exact j1
    · intro l a w' i' hI hr'
      obtain ⟨t0, t1, t2, t3, t4, t5, rfl, hls, n21, n32, n54, n60, n63, n65, f0, f1, f2, f3, f4, f5, g6, g7⟩ := hI
      obtain ⟨hu', o', ho, hdep⟩ := mem_ready.1 hr'
      have hi16 : i' < 7 := by
        rcases Nat.lt_or_ge i' 7 with h | h
        · exact h
        · rw [Array.getElem?_eq_none (by simpa using h)] at ho
          cases ho
      have kp : ∀ j, ¬ j = i' → (l.setIfInBounds i' true).getD j false = l.getD j false := fun j hj => by rw [getD_set (by omega), if_neg hj]
      have ki' : (l.setIfInBounds i' true).getD i' false = true := by rw [getD_set (by omega), if_pos rfl]
      have hsz' : (l.setIfInBounds i' true).size = 7 := by simp [hls]
      have hui : l.getD i' false = false := by simpa [Array.getD, hls, hi16] using hu'
      clear hr' hu'
      rcases (show i' = 0 ∨ i' = 1 ∨ i' = 2 ∨ i' = 3 ∨ i' = 4 ∨ i' = 5 ∨ i' = 6 by omega) with rfl | rfl | rfl | rfl | rfl | rfl | rfl
      · simp only [List.getElem?_toArray, List.getElem?_cons_zero, Option.some.injEq] at ho
        subst ho
        clear hdep
        have l6 := listed_no n60 hui
        have bB := g6 l6
        have hc0 := (Boxed.of_below bV bB).cell
        refine wpOpIn_of rfl rfl ?_
        generalize hK : LInv (fun t0 t1 t2 t3 t4 t5 => #[.func (.func 104) #[] #[.pointer (some ⟨Ba, 0, none⟩), .pointer (some ⟨Bu, 0, none⟩), .pointer (some ⟨Br, 0, none⟩)], undef, .map none, .pointer (some ⟨w.heap.size + 1, 0, none⟩), .pointer (some ⟨Bx, 0, none⟩), .map (some w.heap.size), .func (.func 104) #[] #[.pointer (some ⟨Ba, 0, none⟩), .pointer (some ⟨Bu, 0, none⟩), .pointer (some ⟨Br, 0, none⟩)], chV (x (k + i.1)) (A (k + i.1)) (C (k + i.1)), t0, t1, t2, t3, t4, t5, undef]) W (.map (some w.heap.size)) (.pointer (some ⟨Bx, 2, none⟩)) (obV (x (k + i.1)).ob (A (k + i.1)) (C (k + i.1))) (.agg #[.string (x (k + i.1)).ob.kind, .string (x (k + i.1)).ob.name]) (.pointer (some ⟨Bx, 0, none⟩)) (.int .i64 (x (k + i.1)).ver) Fin (l.setIfInBounds 0 true) = K
        go_simp
        rw [← hK]
        exact ⟨_, t1, t2, t3, t4, t5, rfl, hsz', (by rw [kp 2 (by decide), kp 1 (by decide)]; exact n21), (by rw [kp 3 (by decide), kp 2 (by decide)]; exact n32), (by rw [kp 5 (by decide), kp 4 (by decide)]; exact n54), (fun _ => ki'), (by rw [kp 6 (by decide), kp 3 (by decide)]; exact n63), (by rw [kp 6 (by decide), kp 5 (by decide)]; exact n65), (fun _ => rfl), (by rw [kp 1 (by decide)]; exact f1), (by rw [kp 2 (by decide)]; exact f2), (by rw [kp 3 (by decide)]; exact f3), (by rw [kp 4 (by decide)]; exact f4), (by rw [kp 5 (by decide)]; exact f5), (by rw [kp 6 (by decide)]; exact g6), (by rw [kp 6 (by decide)]; exact g7)⟩
      · simp only [List.getElem?_toArray, List.getElem?_cons_succ, List.getElem?_cons_zero, Option.some.injEq] at ho
        subst ho
        clear hdep
        refine wpOpIn_of rfl rfl ?_
        generalize hK : LInv (fun t0 t1 t2 t3 t4 t5 => #[.func (.func 104) #[] #[.pointer (some ⟨Ba, 0, none⟩), .pointer (some ⟨Bu, 0, none⟩), .pointer (some ⟨Br, 0, none⟩)], undef, .map none, .pointer (some ⟨w.heap.size + 1, 0, none⟩), .pointer (some ⟨Bx, 0, none⟩), .map (some w.heap.size), .func (.func 104) #[] #[.pointer (some ⟨Ba, 0, none⟩), .pointer (some ⟨Bu, 0, none⟩), .pointer (some ⟨Br, 0, none⟩)], chV (x (k + i.1)) (A (k + i.1)) (C (k + i.1)), t0, t1, t2, t3, t4, t5, undef]) W (.map (some w.heap.size)) (.pointer (some ⟨Bx, 2, none⟩)) (obV (x (k + i.1)).ob (A (k + i.1)) (C (k + i.1))) (.agg #[.string (x (k + i.1)).ob.kind, .string (x (k + i.1)).ob.name]) (.pointer (some ⟨Bx, 0, none⟩)) (.int .i64 (x (k + i.1)).ver) Fin (l.setIfInBounds 1 true) = K
        go_simp
        rw [← hK]
        exact ⟨t0, _, t2, t3, t4, t5, rfl, hsz', (fun _ => ki'), (by rw [kp 3 (by decide), kp 2 (by decide)]; exact n32), (by rw [kp 5 (by decide), kp 4 (by decide)]; exact n54), (by rw [kp 6 (by decide), kp 0 (by decide)]; exact n60), (by rw [kp 6 (by decide), kp 3 (by decide)]; exact n63), (by rw [kp 6 (by decide), kp 5 (by decide)]; exact n65), (by rw [kp 0 (by decide)]; exact f0), (fun _ => rfl), (by rw [kp 2 (by decide)]; exact f2), (by rw [kp 3 (by decide)]; exact f3), (by rw [kp 4 (by decide)]; exact f4), (by rw [kp 5 (by decide)]; exact f5), (by rw [kp 6 (by decide)]; exact g6), (by rw [kp 6 (by decide)]; exact g7)⟩
      · simp only [List.getElem?_toArray, List.getElem?_cons_succ, List.getElem?_cons_zero, Option.some.injEq] at ho
        subst ho
        have q1 : l.getD 1 false = true := hdep ⟨1, .data⟩ (by simp) rfl
        clear hdep
        have l6 := listed_no n63 (listed_no n32 hui)
        have bB := g6 l6
        obtain rfl := f1 q1
        have hX2 := hX.below bB (by exact zBx)
        have x0 := hX2 0; have x1 := hX2 1; have x2 := hX2 2; have x3 := hX2 3; have x4 := hX2 4; have x5 := hX2 5; have x6 := hX2 6; have x7 := hX2 7; have x8 := hX2 8
        simp only [List.getElem?_toArray, List.getElem?_cons_succ, List.getElem?_cons_zero] at x0 x1 x2 x3 x4 x5 x6 x7 x8
        refine wpOpIn_of rfl rfl ?_
        generalize hK : LInv (fun t0 t1 t2 t3 t4 t5 => #[.func (.func 104) #[] #[.pointer (some ⟨Ba, 0, none⟩), .pointer (some ⟨Bu, 0, none⟩), .pointer (some ⟨Br, 0, none⟩)], undef, .map none, .pointer (some ⟨w.heap.size + 1, 0, none⟩), .pointer (some ⟨Bx, 0, none⟩), .map (some w.heap.size), .func (.func 104) #[] #[.pointer (some ⟨Ba, 0, none⟩), .pointer (some ⟨Bu, 0, none⟩), .pointer (some ⟨Br, 0, none⟩)], chV (x (k + i.1)) (A (k + i.1)) (C (k + i.1)), t0, t1, t2, t3, t4, t5, undef]) W (.map (some w.heap.size)) (.pointer (some ⟨Bx, 2, none⟩)) (obV (x (k + i.1)).ob (A (k + i.1)) (C (k + i.1))) (.agg #[.string (x (k + i.1)).ob.kind, .string (x (k + i.1)).ob.name]) (.pointer (some ⟨Bx, 0, none⟩)) (.int .i64 (x (k + i.1)).ver) Fin (l.setIfInBounds 2 true) = K
        go_simp
        rw [← hK]
        exact ⟨t0, _, _, t3, t4, t5, rfl, hsz', (fun _ => by rw [kp 1 (by decide)]; exact q1), (fun _ => ki'), (by rw [kp 5 (by decide), kp 4 (by decide)]; exact n54), (by rw [kp 6 (by decide), kp 0 (by decide)]; exact n60), (by rw [kp 6 (by decide), kp 3 (by decide)]; exact n63), (by rw [kp 6 (by decide), kp 5 (by decide)]; exact n65), (by rw [kp 0 (by decide)]; exact f0), (by rw [kp 1 (by decide)]; exact f1), (fun _ => rfl), (by rw [kp 3 (by decide)]; exact f3), (by rw [kp 4 (by decide)]; exact f4), (by rw [kp 5 (by decide)]; exact f5), (by rw [kp 6 (by decide)]; exact g6), (by rw [kp 6 (by decide)]; exact g7)⟩
      · simp only [List.getElem?_toArray, List.getElem?_cons_succ, List.getElem?_cons_zero, Option.some.injEq] at ho
        subst ho
        have q2 : l.getD 2 false = true := hdep ⟨2, .data⟩ (by simp) rfl
        clear hdep
        have l6 := listed_no n63 hui
        have bB := g6 l6
        obtain rfl := f2 q2
        obtain rfl := f1 (n21 q2)
        refine wpOpIn_of rfl rfl ?_
        generalize hK : LInv (fun t0 t1 t2 t3 t4 t5 => #[.func (.func 104) #[] #[.pointer (some ⟨Ba, 0, none⟩), .pointer (some ⟨Bu, 0, none⟩), .pointer (some ⟨Br, 0, none⟩)], undef, .map none, .pointer (some ⟨w.heap.size + 1, 0, none⟩), .pointer (some ⟨Bx, 0, none⟩), .map (some w.heap.size), .func (.func 104) #[] #[.pointer (some ⟨Ba, 0, none⟩), .pointer (some ⟨Bu, 0, none⟩), .pointer (some ⟨Br, 0, none⟩)], chV (x (k + i.1)) (A (k + i.1)) (C (k + i.1)), t0, t1, t2, t3, t4, t5, undef]) W (.map (some w.heap.size)) (.pointer (some ⟨Bx, 2, none⟩)) (obV (x (k + i.1)).ob (A (k + i.1)) (C (k + i.1))) (.agg #[.string (x (k + i.1)).ob.kind, .string (x (k + i.1)).ob.name]) (.pointer (some ⟨Bx, 0, none⟩)) (.int .i64 (x (k + i.1)).ver) Fin (l.setIfInBounds 3 true) = K
        unfold obV
        go_simp
        refine (CallsIn.inRound l0 (hcv _ _ _ _ _ (keyOf_any (x (k + i.1)).ob (A (k + i.1)) (C (k + i.1)) _))).mono ?_
        rintro e w5 ⟨rfl, k4⟩
        have bB5 : Below W.heap.size W w5 := bB.trans (k4.mono bB.size)
        rw [← hK]
        exact ⟨t0, _, _, _, t4, t5, rfl, hsz', (by rw [kp 2 (by decide), kp 1 (by decide)]; exact n21), (fun _ => by rw [kp 2 (by decide)]; exact q2), (by rw [kp 5 (by decide), kp 4 (by decide)]; exact n54), (by rw [kp 6 (by decide), kp 0 (by decide)]; exact n60), (fun _ => ki'), (by rw [kp 6 (by decide), kp 5 (by decide)]; exact n65), (by rw [kp 0 (by decide)]; exact f0), (by rw [kp 1 (by decide)]; exact f1), (by rw [kp 2 (by decide)]; exact f2), (fun _ => rfl), (by rw [kp 4 (by decide)]; exact f4), (by rw [kp 5 (by decide)]; exact f5), (fun _ => bB5), (fun h => by rw [kp 6 (by decide), l6] at h; cases h)⟩
      · simp only [List.getElem?_toArray, List.getElem?_cons_succ, List.getElem?_cons_zero, Option.some.injEq] at ho
        subst ho
        clear hdep
        refine wpOpIn_of rfl rfl ?_
        generalize hK : LInv (fun t0 t1 t2 t3 t4 t5 => #[.func (.func 104) #[] #[.pointer (some ⟨Ba, 0, none⟩), .pointer (some ⟨Bu, 0, none⟩), .pointer (some ⟨Br, 0, none⟩)], undef, .map none, .pointer (some ⟨w.heap.size + 1, 0, none⟩), .pointer (some ⟨Bx, 0, none⟩), .map (some w.heap.size), .func (.func 104) #[] #[.pointer (some ⟨Ba, 0, none⟩), .pointer (some ⟨Bu, 0, none⟩), .pointer (some ⟨Br, 0, none⟩)], chV (x (k + i.1)) (A (k + i.1)) (C (k + i.1)), t0, t1, t2, t3, t4, t5, undef]) W (.map (some w.heap.size)) (.pointer (some ⟨Bx, 2, none⟩)) (obV (x (k + i.1)).ob (A (k + i.1)) (C (k + i.1))) (.agg #[.string (x (k + i.1)).ob.kind, .string (x (k + i.1)).ob.name]) (.pointer (some ⟨Bx, 0, none⟩)) (.int .i64 (x (k + i.1)).ver) Fin (l.setIfInBounds 4 true) = K
        go_simp
        rw [← hK]
        exact ⟨t0, t1, t2, t3, _, t5, rfl, hsz', (by rw [kp 2 (by decide), kp 1 (by decide)]; exact n21), (by rw [kp 3 (by decide), kp 2 (by decide)]; exact n32), (fun _ => ki'), (by rw [kp 6 (by decide), kp 0 (by decide)]; exact n60), (by rw [kp 6 (by decide), kp 3 (by decide)]; exact n63), (by rw [kp 6 (by decide), kp 5 (by decide)]; exact n65), (by rw [kp 0 (by decide)]; exact f0), (by rw [kp 1 (by decide)]; exact f1), (by rw [kp 2 (by decide)]; exact f2), (by rw [kp 3 (by decide)]; exact f3), (fun _ => rfl), (by rw [kp 5 (by decide)]; exact f5), (by rw [kp 6 (by decide)]; exact g6), (by rw [kp 6 (by decide)]; exact g7)⟩
      · simp only [List.getElem?_toArray, List.getElem?_cons_succ, List.getElem?_cons_zero, Option.some.injEq] at ho
        subst ho
        have q4 : l.getD 4 false = true := hdep ⟨4, .data⟩ (by simp) rfl
        clear hdep
        have l6 := listed_no n65 hui
        have bB := g6 l6
        obtain rfl := f4 q4
        have hX2 := hX.below bB (by exact zBx)
        have x0 := hX2 0; have x1 := hX2 1; have x2 := hX2 2; have x3 := hX2 3; have x4 := hX2 4; have x5 := hX2 5; have x6 := hX2 6; have x7 := hX2 7; have x8 := hX2 8
        simp only [List.getElem?_toArray, List.getElem?_cons_succ, List.getElem?_cons_zero] at x0 x1 x2 x3 x4 x5 x6 x7 x8
        refine wpOpIn_of rfl rfl ?_
        generalize hK : LInv (fun t0 t1 t2 t3 t4 t5 => #[.func (.func 104) #[] #[.pointer (some ⟨Ba, 0, none⟩), .pointer (some ⟨Bu, 0, none⟩), .pointer (some ⟨Br, 0, none⟩)], undef, .map none, .pointer (some ⟨w.heap.size + 1, 0, none⟩), .pointer (some ⟨Bx, 0, none⟩), .map (some w.heap.size), .func (.func 104) #[] #[.pointer (some ⟨Ba, 0, none⟩), .pointer (some ⟨Bu, 0, none⟩), .pointer (some ⟨Br, 0, none⟩)], chV (x (k + i.1)) (A (k + i.1)) (C (k + i.1)), t0, t1, t2, t3, t4, t5, undef]) W (.map (some w.heap.size)) (.pointer (some ⟨Bx, 2, none⟩)) (obV (x (k + i.1)).ob (A (k + i.1)) (C (k + i.1))) (.agg #[.string (x (k + i.1)).ob.kind, .string (x (k + i.1)).ob.name]) (.pointer (some ⟨Bx, 0, none⟩)) (.int .i64 (x (k + i.1)).ver) Fin (l.setIfInBounds 5 true) = K
        go_simp
        rw [← hK]
        exact ⟨t0, t1, t2, t3, _, _, rfl, hsz', (by rw [kp 2 (by decide), kp 1 (by decide)]; exact n21), (by rw [kp 3 (by decide), kp 2 (by decide)]; exact n32), (fun _ => by rw [kp 4 (by decide)]; exact q4), (by rw [kp 6 (by decide), kp 0 (by decide)]; exact n60), (by rw [kp 6 (by decide), kp 3 (by decide)]; exact n63), (fun _ => ki'), (by rw [kp 0 (by decide)]; exact f0), (by rw [kp 1 (by decide)]; exact f1), (by rw [kp 2 (by decide)]; exact f2), (by rw [kp 3 (by decide)]; exact f3), (by rw [kp 4 (by decide)]; exact f4), (fun _ => rfl), (by rw [kp 6 (by decide)]; exact g6), (by rw [kp 6 (by decide)]; exact g7)⟩
      · simp only [List.getElem?_toArray, List.getElem?_cons_succ, List.getElem?_cons_zero, Option.some.injEq] at ho
        subst ho
        have q0 : l.getD 0 false = true := hdep ⟨0, .data⟩ (by simp) rfl
        have q3 : l.getD 3 false = true := hdep ⟨3, .data⟩ (by simp) rfl
        have q5 : l.getD 5 false = true := hdep ⟨5, .data⟩ (by simp) rfl
        clear hdep
        have l6 := hui
        have bB := g6 l6
        obtain rfl := f0 q0
        obtain rfl := f3 q3
        obtain rfl := f5 q5
        have hown1 := ownsMap_below hown bB (by exact hown.lt)
        have bx1 := Boxed.of_below bV bB
        have hln : (ixs pre).length < 200 := by rw [ixs_len]; omega
        refine wpOpIn_of rfl rfl ?_
        generalize hK : LInv (fun t0 t1 t2 t3 t4 t5 => #[.func (.func 104) #[] #[.pointer (some ⟨Ba, 0, none⟩), .pointer (some ⟨Bu, 0, none⟩), .pointer (some ⟨Br, 0, none⟩)], undef, .map none, .pointer (some ⟨w.heap.size + 1, 0, none⟩), .pointer (some ⟨Bx, 0, none⟩), .map (some w.heap.size), .func (.func 104) #[] #[.pointer (some ⟨Ba, 0, none⟩), .pointer (some ⟨Bu, 0, none⟩), .pointer (some ⟨Br, 0, none⟩)], chV (x (k + i.1)) (A (k + i.1)) (C (k + i.1)), t0, t1, t2, t3, t4, t5, undef]) W (.map (some w.heap.size)) (.pointer (some ⟨Bx, 2, none⟩)) (obV (x (k + i.1)).ob (A (k + i.1)) (C (k + i.1))) (.agg #[.string (x (k + i.1)).ob.kind, .string (x (k + i.1)).ob.name]) (.pointer (some ⟨Bx, 0, none⟩)) (.int .i64 (x (k + i.1)).ver) Fin (l.setIfInBounds 6 true) = K
        refine operIn_mapUpdate_own _ _ _ 94 rfl 98 3 Tryz.law98 Tryz.underlying94 _ w.heap.size (ixs pre).length D rfl hown1 (by unfold maxLen; omega) _ _ _ rfl rfl hky _ [] (plainElem_int Tryz.underlying3 hwf) ?_
        intro w6 hown6 hgrow6
        have bx6 := bx1.kept hgrow6 (by simp)
        have kf6 : KeepsFrom W0.heap.size W w6 := ((keepsO_of_below bB).from _).trans (KeepsFrom.of_grownBy hgrow6 (fun j hj => by cases hj; omega))
        have bw6 : Below w.heap.size W w6 := (bB.mono (by omega)).grown hgrow6 (by have := bB.size; omega) (fun j hj => by cases hj; exact Nat.le_refl _)
        rw [← hK]
        exact ⟨_, t1, t2, _, t4, _, rfl, hsz', (by rw [kp 2 (by decide), kp 1 (by decide)]; exact n21), (by rw [kp 3 (by decide), kp 2 (by decide)]; exact n32), (by rw [kp 5 (by decide), kp 4 (by decide)]; exact n54), (fun _ => by rw [kp 0 (by decide)]; exact q0), (fun _ => by rw [kp 3 (by decide)]; exact q3), (fun _ => by rw [kp 5 (by decide)]; exact q5), (by rw [kp 0 (by decide)]; exact f0), (by rw [kp 1 (by decide)]; exact f1), (by rw [kp 2 (by decide)]; exact f2), (by rw [kp 3 (by decide)]; exact f3), (by rw [kp 4 (by decide)]; exact f4), (by rw [kp 5 (by decide)]; exact f5), (fun h => absurd (ki'.symm.trans h) (by decide)), (fun _ => by rw [hFin]; exact ⟨hown6, bx6, kf6, bw6, by have := kf6.size; omega⟩)⟩
  case done =>
    rintro D' ys W hD hS ⟨⟨D, hown, htold⟩, bV, hB, hW0s⟩ hK
    rw [hS, List.length_range] at hown htold
    have b1 : Below W0.heap.size W (W.putObj D' (.deferred none)) := (Below.refl _ _).grown (grownBy_putObj' W D' (.deferred none)) hW0s (fun r e => by cases e; exact hD)
    have HO := hid (And.intro (ownsMap_below hown b1 (by omega)) (htold.congr (g := fun i => x (k + i)) (fun i hi => pick_range hi)))
    have hBf : Below w.heap.size w (W.putObj D' (.deferred none)) := hB.trans (b1.mono (by omega))
    have cV := bV.cell
    clear hown htold
    gi_wp2
    refine ⟨by simp, .inl ⟨_, _, rfl, run_takeDeferred hK, ?_⟩⟩
    exact ⟨_, results_tmp rfl _ _ _, D, rfl, HO.out.1, HO.out.2, hBf⟩
  case stop =>
    rintro D c pre W _ _ h _
    exact h.elim
end Go.Proofs.YtkecnaaacbckoaaGreat
namespace Go.Proofs.YtkecnaaacbckoaaGreat
open Go.RowKit Go.Shelf Go.Maps
attribute [local go_sem] Oper.semAt_some
theorem ChCells.frP {w w' : World} {b o : Nat} {x : Ch} {ad : Option Addr} {cap : Nat} {P : Nat → Prop} (h : ChCells w b o x ad cap) (hf : FrP P w w') (hb : b < w.heap.size) (hp : ¬ P b) : ChCells w' b o x ad cap := h.fr (fun j _ => hf.cell (p := ⟨b, o + j, none⟩) hb hp)
theorem RingAt.frP {w w' : World} {R n f : Nat} {x : Nat → Ch} {A : Nat → Option Addr} {C : Nat → Nat} {P : Nat → Prop} (h : RingAt w R n f x A C) (hf : FrP P w w') (hp : ¬ P R) : RingAt w' R n f x A C :=
  ⟨⟨fun j hj => by obtain ⟨u, hu⟩ := h.room.has j hj; exact ⟨u, (hf.cell (p := ⟨R, j, none⟩) h.room.lt hp).trans hu⟩, fun j => (hf.frozen (p := ⟨R, j, none⟩) h.room.lt hp).trans (h.room.free j), Nat.lt_of_lt_of_le h.room.lt hf.size⟩, fun i hi => (h.at_ i hi).frP hf h.room.lt hp⟩
set_option maxRecDepth 100000 in
set_option maxHeartbeats 2000000 in
theorem between2_in (F : Fence) (m : Nat) (h58 : F.fn 104) (h56 : F.fn 102) (hro : F.round = none) (hm : 1 ≤ m) (l Ba Bu Br R : Nat) (Pk : Nat → Prop) (f k n : Nat) (x : Nat → Ch) (A : Nat → Option Addr) (C : Nat → Nat) (hkn : k ≤ n) (hfn : f + n ≤ 1000000) (J Jx : List (Ix (n - k)) → World → Prop)
    (hPl : ∀ (v : Int) (w : World), 0 ≤ v → v ≤ 1000000 → CallsIn F (m - 1) Tryz.prog 102 #[.pointer (some ⟨R, 0, none⟩), .int .i64 v] w fun e w' => e = .returned (.pointer (some ⟨R, (v % 200).toNat * 9, none⟩)) ∧ w' = w)
    (W : World)
    (hY : ∀ pre x' W1, J pre W1 → pre.length < n - k → YieldAt F (m - 1) Tryz.prog l #[chV (x (k + x'.1)) (A (k + x'.1)) (C (k + x'.1))] W1 fun e W' =>
      (e = .returned (.bool true) ∧ J (pre ++ [x']) W' ∧ FrP Pk W1 W') ∨ (e = .returned (.bool false) ∧ Jx (pre ++ [x']) W'))
    (hBa : W.cell? ⟨Ba, 0, none⟩ = some (.int .i64 ((f + k : Nat) : Int))) (hBu : W.cell? ⟨Bu, 0, none⟩ = some (.int .i64 ((f + n : Nat) : Int))) (hBr : W.cell? ⟨Br, 0, none⟩ = some (.pointer (some ⟨R, 0, none⟩)))
    (hu : Bu < W.heap.size ∧ ¬ Pk Bu) (hr : Br < W.heap.size ∧ ¬ Pk Br) (hR : R < W.heap.size ∧ ¬ Pk R) (hs : RingAt W R n f x A C) (h0 : J [] W) :
    CallsIn F m Tryz.prog 104 #[.func (.yield l) #[] #[], .pointer (some ⟨Ba, 0, none⟩), .pointer (some ⟨Bu, 0, none⟩), .pointer (some ⟨Br, 0, none⟩)] W fun e W' => (∃ v, e = .returned v) ∧
      ((∃ ys, ixs ys = List.range (n - k) ∧ J ys W') ∨ (∃ pre, (∃ j, j ≤ n - k ∧ ixs pre = List.range j) ∧ Jx pre W')) := by
  refine callsIn_of_wp Tryz.func104 rfl h58 ?_ hro
  simp only [Tryz.ntmps104, List.size_toArray, List.length_cons, List.length_nil, Nat.reduceAdd, Nat.reduceSub, Array.replicate_succ, Array.replicate_zero, List.push_toArray, List.append_toArray, List.nil_append, List.cons_append]
  have HS := hid hs
  clear hs
  gi_wp2
  gi_loopw [5] (fun i wr => ∃ (j : Nat) (pre : List (Ix (n - k))), j ≤ n - k ∧ i = .int .i64 ((f + k + 1 + j : Nat) : Int) ∧ ixs pre = List.range j ∧ J pre wr ∧ FrP Pk W wr)
    (fun i _ => f + n + 1 - (intOf i).toNat)
  case atStart => exact ⟨0, [], Nat.zero_le _, by go_num, rfl, h0, FrP.refl _ _⟩
  case round =>
    obtain ⟨j, pre, hjn, rfl, hpre, hJs, hf⟩ := hrel
    have hcu : wr.cell? ⟨Bu, 0, none⟩ = some (.int .i64 ((f + n : Nat) : Int)) := (hf.cell (p := ⟨Bu, 0, none⟩) hu.1 hu.2).trans hBu
    have hcr : wr.cell? ⟨Br, 0, none⟩ = some (.pointer (some ⟨R, 0, none⟩)) := (hf.cell (p := ⟨Br, 0, none⟩) hr.1 hr.2).trans hBr
    by_cases hlt : j < n - k
    · have hpl : pre.length < n - k := by
        have h1 := ixs_len pre
        rw [hpre] at h1
        simp at h1
        omega
      obtain ⟨P, hP⟩ : ∃ P, (f + 1 + (k + j)) % 200 = P := ⟨_, rfl⟩
      have hc := (HS.out.at_ (k + j) (by omega)).frP hf hR.1 hR.2
      rw [hP] at hc
      obtain ⟨e0, e1, e2, e3, e4, e5, e6, e7, e8⟩ := hc
      have hver : ((((f + k + 1 + j : Nat) : Int)) % 200).toNat = P := by omega
      have hI := hPl ((f + k + 1 + j : Nat) : Int)
      rw [hver] at hI
      have HN := hid (show ixs (pre ++ [⟨j, hlt⟩]) = List.range (j + 1) by rw [ixs_snoc, hpre, List.range_succ])
      obtain ⟨fn, tmps, assign, body, hy, hRR⟩ := hY pre ⟨j, hlt⟩ wr hJs hpl
      unfold chV at hy
      dsimp only at hy
      clear hP
      gi_wp2_with (gi_at_call 102; go_must (refine (hI _ (by omega) (by omega)).mono ?_; rintro e w1 ⟨rfl, rfl⟩))
      refine hRR.mono ?_
      rintro e W3 (⟨rfl, hJ3, hk3⟩ | ⟨rfl, hJx3⟩)
      · gi_wp2
        go_roundw
        case rel => exact ⟨j + 1, pre ++ [⟨j, hlt⟩], by omega, by go_num, HN.out, hJ3, hf.trans hk3⟩
        case measure => simp [intOf]; omega
      · gi_wp2
        refine bodyPost_ret (results_none rfl _ _ _) rfl ?_
        exact ⟨⟨_, rfl⟩, .inr ⟨pre ++ [⟨j, hlt⟩], ⟨j + 1, by omega, HN.out⟩, hJx3⟩⟩
    · obtain rfl : j = n - k := by omega
      gi_wp2
      go_end0
      exact ⟨⟨_, rfl⟩, .inl ⟨_, hpre, hJs⟩⟩
theorem frP_low {P Q : Nat → Prop} {w W0 W : World} (h0 : Below w.heap.size w W0) (hf : FrP P W0 W) (hp : ∀ q, q < w.heap.size → ¬ Q q → ¬ P q) : FrP Q w W :=
  ⟨hf.os.trans h0.os, hf.tape.trans h0.tape, hf.output.trans h0.output, Nat.le_trans h0.size hf.size, fun q hq hn => (hf.block q (Nat.lt_of_lt_of_le hq h0.size) (hp q hq hn)).trans (h0.block q hq)⟩
/-- one of these changes is of this kind and name -/
def tl (x : Nat → Ch) (L : List Nat) (a b : ByteArray) : Bool := L.any (fun i => decide ((x i).ob.kind = a ∧ (x i).ob.name = b))
/-- each of these changes is of something that was told of ahead of it, or makes it -/
def knw (x : Nat → Ch) : List Nat → List Nat → Bool
  | _, [] => true
  | L, j :: t => (tl x L (x j).ob.kind (x j).ob.name || creB (x j)) && knw x (L ++ [j]) t
theorem knw_append (x : Nat → Ch) : ∀ (l1 L l2 : List Nat), knw x L (l1 ++ l2) = (knw x L l1 && knw x (L ++ l1) l2)
  | [], L, l2 => by simp [knw]
  | j :: t, L, l2 => by
    have h := knw_append x t (L ++ [j]) l2
    simp only [List.cons_append, knw]
    rw [h, List.append_assoc, Bool.and_assoc]
    rfl
theorem knw_snoc (x : Nat → Ch) (l L : List Nat) (j : Nat) : knw x L (l ++ [j]) = (knw x L l && (tl x (L ++ l) (x j).ob.kind (x j).ob.name || creB (x j))) := by
  rw [knw_append]
  simp [knw]
theorem knw_pre {x : Nat → Ch} {L : List Nat} {k j n : Nat} (hj : j ≤ n) (h : knw x L ((List.range j).map (k + ·)) = false) : knw x L ((List.range n).map (k + ·)) = false := by
  obtain ⟨d, rfl⟩ : ∃ d, n = j + d := ⟨n - j, by omega⟩
  rw [List.range_add, List.map_append, knw_append, h]
  rfl
/-- the map has the kinds and names of these changes, and no others -/
def HTold (x : Nat → Ch) (L : List Nat) (D : DataW Unit) : Prop := ∀ a b : ByteArray, a.size ≤ maxLen → b.size ≤ maxLen → Maps.has D (kl a b) = tl x L a b
theorem htold_snoc {x : Nat → Ch} {L : List Nat} {k : Nat} {D : DataW Unit} (ht : HTold x L D) (hD : IsMap D) (hk : (x k).ob.kind.size ≤ maxLen) (hn : (x k).ob.name.size ≤ maxLen) (d : DataW Unit) : HTold x (L ++ [k]) (D.put (kl (x k).ob.kind (x k).ob.name) d) := fun a b ha hb => by
  unfold tl
  rw [List.any_append]
  by_cases hh : (x k).ob.kind = a ∧ (x k).ob.name = b
  · obtain ⟨rfl, rfl⟩ := hh
    rw [has_put_same hD (kl_key _ _ hk hn)]
    simp
  · have hne : kl a b ≠ kl (x k).ob.kind (x k).ob.name := kl_ne ha hb hk hn (fun e => hh ⟨e.1.symm, e.2.symm⟩)
    rw [has_put_other hne, ht a b ha hb]
    simp [hh, tl]
set_option maxRecDepth 100000 in
set_option maxHeartbeats 4000000 in
theorem allKnown_in (F : Fence) (m : Nat) (hcv : ∀ (k f : Nat) (args : Array Value) (w : World) (R : Ending → World → Prop), Calls Tryz.prog f args w R → CallsIn F k Tryz.prog f args w R) (h35 : F.fn 67) (h31 : F.fn 63) (h69 : F.fn 114) (h63 : F.fn 104) (h62 : F.fn 102) (hro : F.round = none) (hm : 4 ≤ m)
    (hPl : ∀ (q : Nat) (R : Nat) (v : Int) (w : World), 0 ≤ v → v ≤ 1000000 → CallsIn F q Tryz.prog 102 #[.pointer (some ⟨R, 0, none⟩), .int .i64 v] w fun e w' => e = .returned (.pointer (some ⟨R, (v % 200).toNat * 9, none⟩)) ∧ w' = w)
    (Ba Bu Br R M : Nat) (f k n N0 : Nat) (L0 : List Nat) (D0 : DataW Unit) (x : Nat → Ch) (A : Nat → Option Addr) (C : Nat → Nat) (hkn : k ≤ n) (hn2 : n ≤ 200) (hN0 : N0 ≤ 200) (hfn : f + n ≤ 1000000) (hfit : ∀ i, i < n → ObFit (x i).ob) (hwfs : ∀ i, i < n → (Lit.int .i64 (x i).ver).wf = true) (w : World)
    (hBa : w.cell? ⟨Ba, 0, none⟩ = some (.int .i64 ((f + k : Nat) : Int))) (hBu : w.cell? ⟨Bu, 0, none⟩ = some (.int .i64 ((f + n : Nat) : Int))) (hBr : w.cell? ⟨Br, 0, none⟩ = some (.pointer (some ⟨R, 0, none⟩)))
    (ha : Ba < w.heap.size) (hu : Bu < w.heap.size) (hr : Br < w.heap.size) (hR : R < w.heap.size) (hMu : Bu ≠ M) (hMr : Br ≠ M) (hMR : R ≠ M) (hs : RingAt w R n f x A C)
    (hown0 : w.ownsMap Tryz.prog 98 (plainElem Tryz.prog 3) M N0 D0) (ht0 : HTold x L0 D0) :
    CallsIn F m Tryz.prog 67 #[.map (some M), .func (.func 104) #[] #[.pointer (some ⟨Ba, 0, none⟩), .pointer (some ⟨Bu, 0, none⟩), .pointer (some ⟨Br, 0, none⟩)]] w fun e w' => e = .returned (.bool (knw x L0 ((List.range (n - k)).map (k + ·)))) ∧ FrP (fun q => q = M) w w' := by
  have h1 : 1 ≤ m := by omega
  have zM := hown0.lt
  refine callsIn_of_wp_marks Tryz.func67 rfl h35 ?_ hro
  simp only [Tryz.ntmps67, List.size_toArray, List.length_cons, List.length_nil, Nat.reduceAdd, Nat.reduceSub, Array.replicate_succ, Array.replicate_zero, List.push_toArray, List.append_toArray, List.nil_append, List.cons_append]
  gi_wp2
  obtain ⟨W0, hW0⟩ : ∃ W0, (w.alloc (.cells #[.map (some M)] 94)).alloc (.cells #[.bool false] 4) = W0 := ⟨_, rfl⟩
  have hsz0 : W0.heap.size = w.heap.size + 2 := by rw [← hW0]; simp
  have hB0 : Below w.heap.size w W0 := by rw [← hW0]; exact (below_alloc _ _).alloc (by simp) _
  have bM : Boxed W0 w.heap.size 94 (.map (some M)) := by rw [← hW0]; exact (Boxed.new w 94 (.map (some M))).alloc _
  have bR : Boxed W0 (w.heap.size + 1) 4 (.bool false) := by
    have h := Boxed.new (w.alloc (.cells #[.map (some M)] 94)) 4 (.bool false)
    rw [hW0] at h; simpa using h
  have oM : W0.ownsMap Tryz.prog 98 (plainElem Tryz.prog 3) M N0 D0 := ownsMap_below hown0 hB0 zM
  rw [hW0]
  clear hW0
  obtain ⟨Pk, hPk⟩ : ∃ Pk : Nat → Prop, Pk = fun q => q = M ∨ w.heap.size ≤ q := ⟨_, rfl⟩
  have hPkB : ∀ {X Y : World}, Below w.heap.size X Y → FrP Pk X Y := fun {X Y} h => ⟨h.os, h.tape, h.output, h.size, fun q _ hq => h.block q (by
    rw [hPk] at hq
    rcases Nat.lt_or_ge q w.heap.size with h1 | h1
    · exact h1
    · exact absurd (Or.inr h1) hq)⟩
  have hPkN : ∀ q, ¬ Pk q ↔ ¬ (q = M ∨ w.heap.size ≤ q) := fun q => by rw [hPk]
  refine wpIn_rangeFunc_ownH (α := Ix (n - k)) hro h1 (gf := 104) (lb := #[.pointer (some ⟨Ba, 0, none⟩), .pointer (some ⟨Bu, 0, none⟩), .pointer (some ⟨Br, 0, none⟩)]) (encs := fun i => #[chV (x (k + i.1)) (A (k + i.1)) (C (k + i.1))]) (Kp := FrP Pk) (S := fun ys => ixs ys = List.range (n - k)) (Sp := fun pre => ∃ j, j ≤ n - k ∧ ixs pre = List.range j) (N := n - k) (w0 := W0) rfl h63 (enters_of Tryz.func104 (by kernel_rfl) rfl)
    ?seq (fun h1 h2 => h1.trans h2) (fun X l o o' hl ho1 ho2 ho3 => hPkB (belowK_b (w := W0) (n₀ := w.heap.size) (by omega) X l o o' hl ho1 ho2 ho3)) (Below.refl _ _) (fun _ => rfl)
    (fun pre W => (∃ D : DataW Unit, W.ownsMap Tryz.prog 98 (plainElem Tryz.prog 3) M (N0 + (ixs pre).length) D ∧ HTold x (L0 ++ (ixs pre).map (k + ·)) D) ∧ knw x L0 ((ixs pre).map (k + ·)) = true ∧ Boxed W w.heap.size 94 (.map (some M)) ∧ Boxed W (w.heap.size + 1) 4 (.bool false) ∧ FrP Pk W0 W)
    (fun c pre W => c = .ret ∧ knw x L0 ((ixs pre).map (k + ·)) = false ∧ Boxed W (w.heap.size + 1) 4 (.bool false) ∧ FrP Pk W0 W) ?own ?ownx ?start
    (fun i a' W => ∃ Bx, W.heap[Bx]? = some (.cells #[.int .i64 (x (k + i.1)).ver, .bool (x (k + i.1)).gone, .string (x (k + i.1)).ob.kind, .string (x (k + i.1)).ob.name, .int .i64 (x (k + i.1)).ob.ver, .int .i64 (x (k + i.1)).ob.born, .string (x (k + i.1)).ob.text, .bool (x (k + i.1)).ob.ending, .slice (A (k + i.1)) (x (k + i.1)).ob.hn (C (k + i.1))] 75 (0, 0)) ∧ a' = { tmps := #[.map (some M), .func (.func 104) #[] #[.pointer (some ⟨Ba, 0, none⟩), .pointer (some ⟨Bu, 0, none⟩), .pointer (some ⟨Br, 0, none⟩)], .pointer (some ⟨w.heap.size, 0, none⟩), undef, .pointer (some ⟨w.heap.size + 1, 0, none⟩), .pointer (some ⟨Bx, 0, none⟩), undef, undef, undef, .func (.func 104) #[] #[.pointer (some ⟨Ba, 0, none⟩), .pointer (some ⟨Bu, 0, none⟩), .pointer (some ⟨Br, 0, none⟩)], chV (x (k + i.1)) (A (k + i.1)) (C (k + i.1)), undef, undef, undef, undef, undef, undef, undef, undef, undef, undef, undef, undef, undef, undef, undef, undef, undef, undef, undef, undef], defers := [] })
    (fun i a' _ X Y row hs hg hr => by
      obtain ⟨Bx, e2, e3⟩ := hs
      refine ⟨Bx, (hg.block Bx (Array.getElem?_eq_some_iff.1 e2).1 (fun e => ?_)).trans e2, e3⟩
      obtain ⟨_, o, ho, hc⟩ := hr Bx e.symm
      rw [e2] at ho
      cases ho
      cases hc)
    ?assign ?body ?done ?stop
  case seq =>
    exact fun l J Jx W hW _ _ hY h0 => between2_in F (m - 1) h63 h62 hro (by omega) l Ba Bu Br R Pk f k n x A C hkn hfn J Jx (hPl _ R) W hY
      (((hB0.trans (hW.mono (by omega))).cell (p := ⟨Ba, 0, none⟩) ha).trans hBa) (((hB0.trans (hW.mono (by omega))).cell (p := ⟨Bu, 0, none⟩) hu).trans hBu) (((hB0.trans (hW.mono (by omega))).cell (p := ⟨Br, 0, none⟩) hr).trans hBr)
      ⟨by have := hW.size; omega, (hPkN _).2 (by omega)⟩ ⟨by have := hW.size; omega, (hPkN _).2 (by omega)⟩ ⟨by have := hW.size; omega, (hPkN _).2 (by omega)⟩ (hs.below (hB0.trans (hW.mono (by omega))) hR (Nat.le_refl _)) h0
  case own =>
    intro pre X Y row hs hg hr
    obtain ⟨⟨D, e1, e2⟩, e0, e3, e4, e5⟩ := hs
    exact ⟨⟨D, ownsMap_below e1 ((Below.refl W0.heap.size X).grown hg e5.size (fun r e => (hr r e).1)) (by omega), e2⟩, e0, e3.kept hg (fun e => by have := (hr _ e.symm).1; omega), e4.kept hg (fun e => by have := (hr _ e.symm).1; omega), e5.trans (hPkB (((Below.refl W0.heap.size X).grown hg e5.size (fun r e => (hr r e).1)).mono (by omega)))⟩
  case ownx =>
    intro c pre X Y row hs hg hr
    obtain ⟨e0, e1, e4, e5⟩ := hs
    exact ⟨e0, e1, e4.kept hg (fun e => by have := (hr _ e.symm).1; omega), e5.trans (hPkB (((Below.refl W0.heap.size X).grown hg e5.size (fun r e => (hr r e).1)).mono (by omega)))⟩
  case start =>
    exact ⟨⟨D0, oM, by simpa [ixs] using ht0⟩, rfl, bM, bR, FrP.refl _ _⟩
  case assign =>
    rintro l pre i W K ⟨⟨D, e1, e2⟩, e0, e3, e4, e5⟩ hK
    simp only [chV]
    gi_wp2
    exact hK _ _ ((KeepsOthers.alloc _ _).from _) (FrP.of_below (below_alloc _ _)) ⟨⟨D, e1.alloc _, e2⟩, e0, e3.alloc _, e4.alloc _, e5.trans (FrP.of_below (below_alloc _ _))⟩ ⟨W.heap.size, World.alloc_heap_new W _, rfl⟩
  case body =>
    rintro l0 pre i a' W hl ⟨r, hr'⟩ ⟨⟨D, hown, htold⟩, hkw, bV, bF, hf⟩ ⟨Bx, bX, rfl⟩ hlt
    have hX : Holds W Bx #[.int .i64 (x (k + i.1)).ver, .bool (x (k + i.1)).gone, .string (x (k + i.1)).ob.kind, .string (x (k + i.1)).ob.name, .int .i64 (x (k + i.1)).ob.ver, .int .i64 (x (k + i.1)).ob.born, .string (x (k + i.1)).ob.text, .bool (x (k + i.1)).ob.ending, .slice (A (k + i.1)) (x (k + i.1)).ob.hn (C (k + i.1))] := fun i => by simp [World.cell?, bX]
    have zBx : Bx < W.heap.size := (Array.getElem?_eq_some_iff.1 bX).1
    obtain ⟨fk, fn, _, _, _⟩ := hfit (k + i.1) (by have := i.2; omega)
    have hsk : (x (k + i.1)).ob.kind.size ≤ maxLen := by unfold maxLen; omega
    have hsn : (x (k + i.1)).ob.name.size ≤ maxLen := by unfold maxLen; omega
    have hky := hkey (x (k + i.1)).ob.kind (x (k + i.1)).ob.name hsk hsn
    have hwf := hwfs (k + i.1) (by have := i.2; omega)
    have HT := hid (htold_snoc (k := k + i.1) htold hown.isMap hsk hsn (.lit (.int .i64 (x (k + i.1)).ver)))
    have HH := htold (x (k + i.1)).ob.kind (x (k + i.1)).ob.name hsk hsn
    have HK := hid (knw_snoc x ((ixs pre).map (k + ·)) L0 (k + i.1))
    have EX : (ixs (pre ++ [i])).map (k + ·) = (ixs pre).map (k + ·) ++ [k + i.1] := by rw [ixs_snoc, List.map_append]; rfl
    have hln : (ixs pre).length < 200 := by rw [ixs_len]; omega
    have hzW := hf.size
    have hz : W.heap.size ≤ W.heap.size := Nat.le_refl _
    have x0 := hX 0; have x1 := hX 1; have x2 := hX 2; have x3 := hX 3; have x4 := hX 4; have x5 := hX 5; have x6 := hX 6; have x7 := hX 7; have x8 := hX 8
    simp only [List.getElem?_toArray, List.getElem?_cons_succ, List.getElem?_cons_zero] at x0 x1 x2 x3 x4 x5 x6 x7 x8
    have cV := bV.cell
    clear htold fk fn
    have h1' : 1 ≤ m - 1 - 1 := by omega
    cases hh : Maps.has D (kl (x (k + i.1)).ob.kind (x (k + i.1)).ob.name) with
    | true =>
      simp only [chV]
      gi_wp2_with (first | (gi_at_call 63; go_must (refine (CallsIn.inRound l0 (hcv _ _ _ _ _ (keyOf_any (x (k + i.1)).ob (A (k + i.1)) (C (k + i.1)) _))).mono ?_; rintro e w1 ⟨rfl, hb1⟩; have bA : Below W.heap.size W (w1.alloc (.cells #[.string (x (k + i.1)).ob.kind, .string (x (k + i.1)).ob.name] 98)) := hb1.alloc hb1.size _; have hY := hX.below bA zBx; have y0 := hY 0; have y1 := hY 1; have y2 := hY 2; have y3 := hY 3; have y4 := hY 4; have y5 := hY 5; have y6 := hY 6; have y7 := hY 7; have y8 := hY 8; simp only [List.getElem?_toArray, List.getElem?_cons_succ, List.getElem?_cons_zero] at y0 y1 y2 y3 y4 y5 y6 y7 y8; have cW := (Boxed.of_below bV bA).cell; have HO1 := hid (ownsMap_below hown bA hown.lt))) | (gi_at_lookup; go_must (refine wpListIn_lookup_own_ok_int _ rfl _ _ 94 rfl 98 3 .i64 Tryz.law98 Tryz.underlying94 Tryz.underlying3 (zero3 _) M (N0 + (ixs pre).length) D rfl HO1.out _ _ rfl hky ?_; intro c hat hwc; rw [hh]; clear hat hwc)) | (gi_at_mapUpdate; go_must (refine wpListIn_mapUpdate_own _ rfl _ _ _ 94 rfl 98 3 Tryz.law98 Tryz.underlying94 _ M (N0 + (ixs pre).length) D rfl HO1.out (by unfold maxLen; omega) _ _ _ rfl rfl hky _ [] (plainElem_int Tryz.underlying3 hwf) ?_; intro w3 hown3 hgrow3)))
      have B3 : KeepsFrom W0.heap.size W w3 := ((keepsO_of_below bA).from _).trans (KeepsFrom.of_grownBy hgrow3 (fun j hj => by cases hj; omega))
      have F3 : FrP Pk W w3 := (FrP.of_below bA).trans ((FrP.of_grown hgrow3).mono (fun q hq => by cases hq; rw [hPk]; exact Or.inl rfl))
      refine ⟨B3, F3, ⟨_, by rw [ixs_snoc, List.length_append]; exact hown3, by rw [EX, ← List.append_assoc]; exact HT.out⟩, by rw [EX, HK.out, hkw, ← HH, hh]; first | rfl | (rw [hcr]; rfl), (Boxed.of_below bV bA).kept hgrow3 (by simp; omega), (Boxed.of_below bF bA).kept hgrow3 (by simp; omega), hf.trans F3⟩
    | false =>
      cases hcr : creB (x (k + i.1)) with
      | true =>
        simp only [chV]
        gi_wp2_with (first | (gi_at_call 63; go_must (refine (CallsIn.inRound l0 (hcv _ _ _ _ _ (keyOf_any (x (k + i.1)).ob (A (k + i.1)) (C (k + i.1)) _))).mono ?_; rintro e w1 ⟨rfl, hb1⟩; have bA : Below W.heap.size W (w1.alloc (.cells #[.string (x (k + i.1)).ob.kind, .string (x (k + i.1)).ob.name] 98)) := hb1.alloc hb1.size _; have hY := hX.below bA zBx; have y0 := hY 0; have y1 := hY 1; have y2 := hY 2; have y3 := hY 3; have y4 := hY 4; have y5 := hY 5; have y6 := hY 6; have y7 := hY 7; have y8 := hY 8; simp only [List.getElem?_toArray, List.getElem?_cons_succ, List.getElem?_cons_zero] at y0 y1 y2 y3 y4 y5 y6 y7 y8; have cW := (Boxed.of_below bV bA).cell; have HO1 := hid (ownsMap_below hown bA hown.lt))) | (gi_at_lookup; go_must (refine wpListIn_lookup_own_ok_int _ rfl _ _ 94 rfl 98 3 .i64 Tryz.law98 Tryz.underlying94 Tryz.underlying3 (zero3 _) M (N0 + (ixs pre).length) D rfl HO1.out _ _ rfl hky ?_; intro c hat hwc; rw [hh]; clear hat hwc)) | (gi_at_call 114; go_must (refine (CallsIn.inRound l0 (hcv _ _ _ _ _ (implCre_any (x (k + i.1)) (A (k + i.1)) (C (k + i.1)) _))).mono ?_; rw [hcr]; rintro e w2 ⟨rfl, hb2⟩; have bA2 : Below W.heap.size W w2 := bA.trans (hb2.mono bA.size); have hZ := hX.below bA2 zBx; have z0 := hZ 0; simp only [List.getElem?_toArray, List.getElem?_cons_zero] at z0; have hKb := (holds_new w1 #[.string (x (k + i.1)).ob.kind, .string (x (k + i.1)).ob.name] 98).below hb2 (by simp); have k0 := hKb 0; have k1 := hKb 1; simp only [List.getElem?_toArray, List.getElem?_cons_succ, List.getElem?_cons_zero] at k0 k1; have cW2 := (Boxed.of_below bV bA2).cell; have bF2 := Boxed.of_below bF bA2; have cF2 := bF2.cell; have fF2 := bF2.frozen; have HO2 := hid (ownsMap_below hown bA2 hown.lt))) | (gi_at_mapUpdate; go_must (refine wpListIn_mapUpdate_own _ rfl _ _ _ 94 rfl 98 3 Tryz.law98 Tryz.underlying94 _ M (N0 + (ixs pre).length) D rfl HO2.out (by unfold maxLen; omega) _ _ _ rfl rfl hky _ [] (plainElem_int Tryz.underlying3 hwf) ?_; intro w3 hown3 hgrow3)))
        have B3 : KeepsFrom W0.heap.size W w3 := ((keepsO_of_below bA2).from _).trans (KeepsFrom.of_grownBy hgrow3 (fun j hj => by cases hj; omega))
        have F3 : FrP Pk W w3 := (FrP.of_below bA2).trans ((FrP.of_grown hgrow3).mono (fun q hq => by cases hq; rw [hPk]; exact Or.inl rfl))
        refine ⟨B3, F3, ⟨_, by rw [ixs_snoc, List.length_append]; exact hown3, by rw [EX, ← List.append_assoc]; exact HT.out⟩, by rw [EX, HK.out, hkw, ← HH, hh]; first | rfl | (rw [hcr]; rfl), (Boxed.of_below bV bA2).kept hgrow3 (by simp; omega), (Boxed.of_below bF bA2).kept hgrow3 (by simp; omega), hf.trans F3⟩
      | false =>
        simp only [chV]
        gi_wp2_with (first | (gi_at_call 63; go_must (refine (CallsIn.inRound l0 (hcv _ _ _ _ _ (keyOf_any (x (k + i.1)).ob (A (k + i.1)) (C (k + i.1)) _))).mono ?_; rintro e w1 ⟨rfl, hb1⟩; have bA : Below W.heap.size W (w1.alloc (.cells #[.string (x (k + i.1)).ob.kind, .string (x (k + i.1)).ob.name] 98)) := hb1.alloc hb1.size _; have hY := hX.below bA zBx; have y0 := hY 0; have y1 := hY 1; have y2 := hY 2; have y3 := hY 3; have y4 := hY 4; have y5 := hY 5; have y6 := hY 6; have y7 := hY 7; have y8 := hY 8; simp only [List.getElem?_toArray, List.getElem?_cons_succ, List.getElem?_cons_zero] at y0 y1 y2 y3 y4 y5 y6 y7 y8; have cW := (Boxed.of_below bV bA).cell; have HO1 := hid (ownsMap_below hown bA hown.lt))) | (gi_at_lookup; go_must (refine wpListIn_lookup_own_ok_int _ rfl _ _ 94 rfl 98 3 .i64 Tryz.law98 Tryz.underlying94 Tryz.underlying3 (zero3 _) M (N0 + (ixs pre).length) D rfl HO1.out _ _ rfl hky ?_; intro c hat hwc; rw [hh]; clear hat hwc)) | (gi_at_call 114; go_must (refine (CallsIn.inRound l0 (hcv _ _ _ _ _ (implCre_any (x (k + i.1)) (A (k + i.1)) (C (k + i.1)) _))).mono ?_; rw [hcr]; rintro e w2 ⟨rfl, hb2⟩; have bA2 : Below W.heap.size W w2 := bA.trans (hb2.mono bA.size); have hZ := hX.below bA2 zBx; have z0 := hZ 0; simp only [List.getElem?_toArray, List.getElem?_cons_zero] at z0; have hKb := (holds_new w1 #[.string (x (k + i.1)).ob.kind, .string (x (k + i.1)).ob.name] 98).below hb2 (by simp); have k0 := hKb 0; have k1 := hKb 1; simp only [List.getElem?_toArray, List.getElem?_cons_succ, List.getElem?_cons_zero] at k0 k1; have cW2 := (Boxed.of_below bV bA2).cell; have bF2 := Boxed.of_below bF bA2; have cF2 := bF2.cell; have fF2 := bF2.frozen; have HO2 := hid (ownsMap_below hown bA2 hown.lt))))
        have hPr : Pk (w.heap.size + 1) := by rw [hPk]; exact Or.inr (by omega)
        have F3 : FrP Pk W (w2.setCell ⟨w.heap.size + 1, 0, none⟩ (.bool false)) := (FrP.of_below bA2).trans ((FrP.refl _ _).setCell (p := ⟨w.heap.size + 1, 0, none⟩) hPr _)
        exact ⟨((keepsO_of_below bA2).trans (KeepsOthers.setCell _ _ _)).from _, rfl, by rw [EX, HK.out, hkw, ← HH, hh, hcr]; rfl, bF2.set _, hf.trans F3⟩
  case done =>
    rintro D' ys W hD hS ⟨⟨D, hown, htold⟩, hkw, bV, bF, hf⟩ hK
    rw [hS] at hkw
    have zf := hf.size
    have cF := bF.cell
    have fF := bF.frozen
    clear hown htold
    obtain ⟨X, hX⟩ : ∃ X, W.setCell ⟨w.heap.size + 1, 0, none⟩ (.bool true) = X := ⟨_, rfl⟩
    have hPr : Pk (w.heap.size + 1) := by rw [hPk]; exact Or.inr (by omega)
    have fX : FrP Pk W X := by rw [← hX]; exact (FrP.refl _ _).setCell (p := ⟨w.heap.size + 1, 0, none⟩) hPr _
    have bX : Boxed X (w.heap.size + 1) 4 (.bool true) := by rw [← hX]; exact bF.set _
    have kX : X.heap[D']? = some (.deferred (some [])) := by rw [← hX]; exact (KeepsOthers.setCell _ _ _).same D' _ hK rfl
    have zX := fX.size
    have g1 := grownBy_putObj' X D' (.deferred none)
    have b1 : Below w.heap.size X (X.putObj D' (.deferred none)) := (Below.refl _ _).grown g1 (by omega) (fun r e => by cases e; omega)
    have cR := (bX.kept g1 (fun e => by cases e; omega)).cell
    have FR : FrP (fun q => q = M) w (X.putObj D' (.deferred none)) := frP_low hB0 ((hf.trans fX).trans (hPkB b1)) (fun q hq hp => (hPkN q).2 (by omega))
    have HKW := hid hkw
    clear hkw bX
    gi_wp2
    refine ⟨by simp, .inl ⟨_, _, rfl, run_takeDeferred kX, ?_⟩⟩
    exact ⟨.bool true, by simp [results, Tryz.results67, go_sem, cR], by rw [HKW.out], FR⟩
  case stop =>
    rintro D' c pre W hD ⟨j, hj, hpre⟩ ⟨rfl, hkw, bF, hf⟩ hK
    rw [hpre] at hkw
    have HKW := hid (knw_pre hj hkw)
    have zf := hf.size
    have g1 := grownBy_putObj' W D' (.deferred none)
    have b1 : Below w.heap.size W (W.putObj D' (.deferred none)) := (Below.refl _ _).grown g1 (by omega) (fun r e => by cases e; omega)
    have cR := (bF.kept g1 (fun e => by cases e; omega)).cell
    have FR : FrP (fun q => q = M) w (W.putObj D' (.deferred none)) := frP_low hB0 (hf.trans (hPkB b1)) (fun q hq hp => (hPkN q).2 (by omega))
    clear hkw
    gi_wp2
    refine ⟨by simp, .inl ⟨_, _, rfl, run_takeDeferred hK, ?_⟩⟩
    exact ⟨.bool false, by simp [results, Tryz.results67, go_sem, cR], by rw [HKW.out], FR⟩
end Go.Proofs.YtkecnaaacbckoaaGreat
