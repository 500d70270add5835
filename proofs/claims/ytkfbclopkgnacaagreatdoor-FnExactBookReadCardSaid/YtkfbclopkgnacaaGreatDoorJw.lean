import Derived.Test.YtkfbclopkgnacaaGreatDoorJh
namespace Go.Proofs.YtkfbclopkgnacaaGreatDoor
open Go.RowKit Go.Shelf
/-- what the first k lines of a book's form say -/
structure Upto (B : Bk) (k : Nat) (x : Bk) : Prop where
  now : x.now = if k = 0 then 0 else B.now
  fl : x.floor = if k = 0 then 0 else B.floor
  on : x.on = min (k - 1) B.on
  hn : x.hn = min (k - 1 - B.on) B.hn
  tn : x.tn = min (k - 1 - B.on - B.hn) B.tn
  os : ∀ i, i < x.on → ObE (x.os i) (B.os i)
  hs : ∀ i, i < x.hn → (x.hs i).ver = (B.hs i).ver ∧ (x.hs i).gone = (B.hs i).gone ∧ ObE (x.hs i).ob (B.hs i).ob
  ts : ∀ i, i < x.tn → x.ts i = B.ts i
theorem Upto.start (B : Bk) : Upto B 0 bk0 := ⟨rfl, rfl, by simp [bk0], by simp [bk0], by simp [bk0], fun i hi => absurd hi (Nat.not_lt_zero _), fun i hi => absurd hi (Nat.not_lt_zero _), fun i hi => absurd hi (Nat.not_lt_zero _)⟩
theorem Upto.head {B x : Bk} (h : Upto B 0 x) : Upto B 1 { x with now := B.now, floor := B.floor } :=
  ⟨rfl, rfl, by have := h.on; simp at this ⊢; exact this, by have := h.hn; simp at this ⊢; exact this, by have := h.tn; simp at this ⊢; exact this, h.os, h.hs, h.ts⟩
theorem Upto.addO {B x : Bk} {i : Nat} {o : Ob} (h : Upto B (1 + i) x) (hi : i < B.on) (e : ObE o (B.os i)) : Upto B (1 + i + 1) { x with on := x.on + 1, os := updF x.os x.on o } := by
  have a1 := h.now; have a2 := h.fl; have a3 := h.on; have a4 := h.hn; have a5 := h.tn
  have hk : x.on = i := by omega
  rw [if_neg (by omega)] at a1 a2
  refine ⟨by rw [if_neg (by omega)]; exact a1, by rw [if_neg (by omega)]; exact a2, by show x.on + 1 = _; omega, by show x.hn = _; omega, by show x.tn = _; omega, fun j hj => ?_, h.hs, h.ts⟩
  have hj : j < x.on + 1 := hj
  show ObE (updF x.os x.on o j) _
  by_cases hjk : j = x.on
  · subst hjk
    rw [updF_same, hk]
    exact e
  · rw [updF_ne _ _ hjk]
    exact h.os j (by omega)
theorem Upto.addC {B x : Bk} {i : Nat} {o : Ch} (h : Upto B (1 + B.on + i) x) (hi : i < B.hn) (e : o.ver = (B.hs i).ver ∧ o.gone = (B.hs i).gone ∧ ObE o.ob (B.hs i).ob) : Upto B (1 + B.on + i + 1) { x with hn := x.hn + 1, hs := updF x.hs x.hn o } := by
  have a1 := h.now; have a2 := h.fl; have a3 := h.on; have a4 := h.hn; have a5 := h.tn
  have hk : x.hn = i := by omega
  rw [if_neg (by omega)] at a1 a2
  refine ⟨by rw [if_neg (by omega)]; exact a1, by rw [if_neg (by omega)]; exact a2, by show x.on = _; omega, by show x.hn + 1 = _; omega, by show x.tn = _; omega, h.os, fun j hj => ?_, h.ts⟩
  have hj : j < x.hn + 1 := hj
  show (updF x.hs x.hn o j).ver = _ ∧ (updF x.hs x.hn o j).gone = _ ∧ ObE (updF x.hs x.hn o j).ob _
  by_cases hjk : j = x.hn
  · subst hjk
    rw [updF_same, hk]
    exact e
  · rw [updF_ne _ _ hjk]
    exact h.hs j (by omega)
theorem Upto.addT {B x : Bk} {i : Nat} {o : Ti} (h : Upto B (1 + B.on + B.hn + i) x) (hi : i < B.tn) (e : o = B.ts i) : Upto B (1 + B.on + B.hn + i + 1) { x with tn := x.tn + 1, ts := updF x.ts x.tn o } := by
  have a1 := h.now; have a2 := h.fl; have a3 := h.on; have a4 := h.hn; have a5 := h.tn
  have hk : x.tn = i := by omega
  rw [if_neg (by omega)] at a1 a2
  refine ⟨by rw [if_neg (by omega)]; exact a1, by rw [if_neg (by omega)]; exact a2, by show x.on = _; omega, by show x.hn = _; omega, by show x.tn + 1 = _; omega, h.os, h.hs, fun j hj => ?_⟩
  have hj : j < x.tn + 1 := hj
  show updF x.ts x.tn o j = _
  by_cases hjk : j = x.tn
  · subst hjk
    rw [updF_same, hk]
    exact e
  · rw [updF_ne _ _ hjk]
    exact h.ts j (by omega)
/-- which line it is -/
theorem lns_cases {x : Bk} {k : Nat} {n : Ln} (h : (lns x)[k]? = some n) : (k = 0 ∧ n = lnB x) ∨ (∃ i, i < x.on ∧ k = 1 + i ∧ n = lnO (x.os i)) ∨ (∃ i, i < x.hn ∧ k = 1 + x.on + i ∧ n = lnC (x.hs i)) ∨ (∃ i, i < x.tn ∧ k = 1 + x.on + x.hn + i ∧ n = lnT (x.ts i)) := by
  have hlt : k < (lns x).length := (List.getElem?_eq_some_iff.1 h).1
  rw [lns_len] at hlt
  by_cases h0 : k = 0
  · subst h0
    rw [lns_0] at h
    cases h
    exact Or.inl ⟨rfl, rfl⟩
  · by_cases h1 : k - 1 < x.on
    · obtain ⟨i, rfl⟩ : ∃ i, k = 1 + i := ⟨k - 1, by omega⟩
      rw [lns_o x i (by omega)] at h
      cases h
      exact Or.inr (Or.inl ⟨i, by omega, rfl, rfl⟩)
    · by_cases h2 : k - 1 - x.on < x.hn
      · obtain ⟨i, rfl⟩ : ∃ i, k = 1 + x.on + i := ⟨k - 1 - x.on, by omega⟩
        rw [lns_h x i (by omega)] at h
        cases h
        exact Or.inr (Or.inr (Or.inl ⟨i, by omega, rfl, rfl⟩))
      · obtain ⟨i, rfl⟩ : ∃ i, k = 1 + x.on + x.hn + i := ⟨k - 1 - x.on - x.hn, by omega⟩
        rw [lns_t x i (by omega)] at h
        cases h
        exact Or.inr (Or.inr (Or.inr ⟨i, by omega, rfl, rfl⟩))
theorem prt_ob {o : Ob} (h : ObT o) : ∀ s ∈ obW o, Prt s.data.toList := by
  intro s hs
  unfold obW six hol at hs
  simp only [List.mem_append, List.mem_cons, List.not_mem_nil, or_false, List.mem_map, List.mem_range] at hs
  rcases hs with (rfl | rfl | rfl | rfl | rfl | rfl) | ⟨i, hi, rfl⟩
  · exact (wrd_name h.k).prt
  · exact (wrd_name h.n).prt
  · exact (wrd_dec _).prt
  · exact (wrd_dec _).prt
  · exact (wrd_end _).prt
  · exact prt_quS _
  · exact (wrd_name (h.h i hi)).prt
theorem prt_ln {x : Bk} (h : BkT x) {n : Ln} (hn : n ∈ lns x) : Wrd n.hd.data.toList ∧ Prt (spL n.ws) := by
  obtain ⟨k, hk⟩ := List.getElem?_of_mem hn
  rcases lns_cases hk with ⟨_, rfl⟩ | ⟨i, hi, _, rfl⟩ | ⟨i, hi, _, rfl⟩ | ⟨i, hi, _, rfl⟩
  · refine ⟨wrd_bok, prt_spL _ fun s hs => ?_⟩
    simp only [lnB, bkW, List.mem_cons, List.not_mem_nil, or_false] at hs
    rcases hs with rfl | rfl <;> exact (wrd_dec _).prt
  · exact ⟨wrd_obj, prt_spL _ (prt_ob (h.os i hi))⟩
  · refine ⟨wrd_chg, prt_spL _ fun s hs => ?_⟩
    simp only [lnC, chW, List.mem_cons] at hs
    rcases hs with rfl | hs
    · exact (wrd_gone _).prt
    · exact prt_ob (h.hs i hi).1 s hs
  · refine ⟨wrd_tic, prt_spL _ fun s hs => ?_⟩
    simp only [lnT, tiW, List.mem_cons, List.not_mem_nil, or_false] at hs
    rcases hs with rfl | rfl | rfl | rfl | rfl
    · exact (wrd_name (h.ts i hi).c).prt
    · exact (wrd_dec _).prt
    · exact (wrd_dec _).prt
    · exact (wrd_dec _).prt
    · exact prt_quS _
theorem asc_lnF {x : Bk} (h : BkT x) : ∀ l : List Ln, (∀ n ∈ l, n ∈ lns x) → Asc (lnF l)
  | [], _ => fun c hc => absurd hc (by simp [lnF])
  | n :: l, hl => by
    rw [lnF_cons]
    obtain ⟨h1, h2⟩ := prt_ln h (hl n (by simp))
    refine Asc.app ?_ ?_
    · unfold Ln.l
      exact h1.asc.app h2.asc
    · intro c hc
      rcases List.mem_cons.1 hc with rfl | hc
      · decide
      · exact asc_lnF h l (fun m hm => hl m (by simp [hm])) c hc
/-- where the reading of lines stands -/
def LnI (s : ByteArray) (x : Bk) (q : ByteArray) (d : Bool) : Prop := ∀ B, TolB s B → d = false ∧ ∃ k, k ≤ (lns B).length ∧ q.data.toList = lnF ((lns B).drop k) ∧ Upto B k x
/-- where it stands behind a line's first word -/
def LnM (s : ByteArray) (x : Bk) (t q : ByteArray) (d : Bool) : Prop := ∀ B, TolB s B → d = false ∧ ∃ k n, (lns B)[k]? = some n ∧ t = n.hd ∧ q.data.toList = spL n.ws ++ 10 :: lnF ((lns B).drop (k + 1)) ∧ Asc q.data.toList ∧ Upto B k x
/-- where it stands ahead of a line's end -/
def LnE (s : ByteArray) (x : Bk) (q : ByteArray) (d : Bool) : Prop := ∀ B, TolB s B → d = false ∧ ∃ k, k < (lns B).length ∧ q.data.toList = 10 :: lnF ((lns B).drop (k + 1)) ∧ Upto B (k + 1) x
theorem LnI.start (s : ByteArray) : LnI s bk0 s false := fun B h => ⟨rfl, 0, Nat.zero_le _, by rw [List.drop_zero]; exact h.fm, Upto.start B⟩
theorem drop_cons {l : List Ln} {k : Nat} {n : Ln} (h : l[k]? = some n) : l.drop k = n :: l.drop (k + 1) := by
  obtain ⟨hk, e⟩ := List.getElem?_eq_some_iff.1 h
  rw [List.drop_eq_getElem_cons hk, e]
theorem LnI.word {s : ByteArray} {x : Bk} {q t q1 : ByteArray} {d d1 : Bool} (h : LnI s x q d) (hq : q ≠ ⟨#[]⟩) (hw : WdT q d t q1 d1) : LnM s x t q1 d1 := by
  intro B hB
  obtain ⟨hd, k, hk, e, hu⟩ := h B hB
  have hT := valid_t hB.ok
  have hk2 : k < (lns B).length := by
    rcases Nat.lt_or_ge k (lns B).length with h1 | h1
    · exact h1
    · rw [List.drop_eq_nil_of_le h1] at e
      exact absurd (pa_ext (a := q) (b := ⟨#[]⟩) (by rw [e]; rfl)) hq
  obtain ⟨n, hn⟩ : ∃ n, (lns B)[k]? = some n := ⟨_, List.getElem?_eq_getElem hk2⟩
  obtain ⟨w1, w2⟩ := prt_ln hT (List.mem_of_getElem? hn)
  have ha : Asc q.data.toList := by
    rw [e]
    exact asc_lnF hT _ (fun m hm => List.mem_of_mem_drop hm)
  rw [drop_cons hn, lnF_cons] at e
  obtain ⟨c, l2, k1, k2⟩ := sp_next n.ws (lnF ((lns B).drop (k + 1)))
  have e2 : q.data.toList = n.hd.data.toList ++ c :: l2 := by
    rw [e, ← k1]
    unfold Ln.l
    simp
  obtain ⟨m1, m2, m3⟩ := hw.2 n.hd.data.toList c l2 hd ha e2 w1 k2
  refine ⟨m2, k, n, hn, pa_ext m1, by rw [m3, k1], ?_, hu⟩
  rw [m3]
  rw [e2] at ha
  exact ha.right
theorem LnE.line {s : ByteArray} {x : Bk} {q : ByteArray} {d : Bool} (h : LnE s x q d) : LnI s x (qpR 10 q) (d || !qpB 10 q) := by
  intro B hB
  obtain ⟨hd, k, hk, e, hu⟩ := h B hB
  have hq : qpB 10 q = true := (qpB_iff 10 q).2 ⟨_, e⟩
  exact ⟨by rw [hd, hq]; rfl, k + 1, hk, qpR_cons e, hu⟩
theorem LnM.lt {B : Bk} {k : Nat} {n : Ln} (h : (lns B)[k]? = some n) : k < (lns B).length := (List.getElem?_eq_some_iff.1 h).1
theorem LnM.book {s : ByteArray} {x : Bk} {q q2 q3 : ByteArray} {d d2 d3 : Bool} {a f : Int} (h : LnM s x ⟨#[98, 111, 111, 107]⟩ q d) (h1 : NmT q d a q2 d2) (h2 : NmT q2 d2 f q3 d3) : LnE s { x with now := a, floor := f } q3 d3 := by
  intro B hB
  obtain ⟨hd, k, n, hn, ht, e, ha, hu⟩ := h B hB
  have hT := valid_t hB.ok
  rcases lns_cases hn with ⟨rfl, rfl⟩ | ⟨i, _, _, rfl⟩ | ⟨i, _, _, rfl⟩ | ⟨i, _, _, rfl⟩
  · obtain ⟨a1, b1, c1, f1⟩ := h1.step (m := B.now.toNat) hd ha e (by have := hT.v.ln; omega)
    obtain ⟨a2, b2, c2, _⟩ := h2.step (m := B.floor.toNat) (zs := []) b1 f1 c1 (by have := hT.v.lf; omega)
    rw [← hT.v.en] at a1
    rw [← hT.v.ef] at a2
    subst a1 a2
    exact ⟨b2, 0, LnM.lt hn, c2, hu.head⟩
  all_goals exact absurd ht (by simp [lnO, lnC, lnT])
theorem LnM.obj {s : ByteArray} {x : Bk} {q q2 : ByteArray} {d d2 : Bool} {o : Ob} (h : LnM s x ⟨#[111, 98, 106, 101, 99, 116]⟩ q d) (h1 : ObR q d o q2 d2) : LnE s { x with on := x.on + 1, os := updF x.os x.on o } q2 d2 := by
  intro B hB
  obtain ⟨hd, k, n, hn, ht, e, ha, hu⟩ := h B hB
  have hT := valid_t hB.ok
  rcases lns_cases hn with ⟨rfl, rfl⟩ | ⟨i, hi, rfl, rfl⟩ | ⟨i, _, _, rfl⟩ | ⟨i, _, _, rfl⟩
  · exact absurd ht (by simp [lnB])
  · obtain ⟨k1, k2, k3⟩ := h1.2 (B.os i) _ hd ha (hT.os i hi) e
    exact ⟨k2, 1 + i, LnM.lt hn, k3, hu.addO hi k1⟩
  all_goals exact absurd ht (by simp [lnC, lnT])
theorem LnM.chg {s : ByteArray} {x : Bk} {q q2 : ByteArray} {d d2 : Bool} {c : Ch} (h : LnM s x ⟨#[99, 104, 97, 110, 103, 101]⟩ q d) (h1 : ChR q d c q2 d2) : LnE s { x with hn := x.hn + 1, hs := updF x.hs x.hn c } q2 d2 := by
  intro B hB
  obtain ⟨hd, k, n, hn, ht, e, ha, hu⟩ := h B hB
  have hT := valid_t hB.ok
  rcases lns_cases hn with ⟨rfl, rfl⟩ | ⟨i, hi, _, rfl⟩ | ⟨i, hi, rfl, rfl⟩ | ⟨i, _, _, rfl⟩
  · exact absurd ht (by simp [lnB])
  · exact absurd ht (by simp [lnO])
  · obtain ⟨⟨k0, k1⟩, k2, k3⟩ := h1.2 (B.hs i) _ hd ha (hT.hs i hi).1 e
    exact ⟨k2, 1 + B.on + i, LnM.lt hn, k3, hu.addC hi ⟨by rw [h1.1.2.2.2, k1.v, (hT.hs i hi).2], k0, k1⟩⟩
  · exact absurd ht (by simp [lnT])
theorem LnM.tic {s : ByteArray} {x : Bk} {q q2 : ByteArray} {d d2 : Bool} {c : Ti} (h : LnM s x ⟨#[116, 105, 99, 107, 101, 116]⟩ q d) (h1 : TiR q d c q2 d2) : LnE s { x with tn := x.tn + 1, ts := updF x.ts x.tn c } q2 d2 := by
  intro B hB
  obtain ⟨hd, k, n, hn, ht, e, ha, hu⟩ := h B hB
  have hT := valid_t hB.ok
  rcases lns_cases hn with ⟨rfl, rfl⟩ | ⟨i, hi, _, rfl⟩ | ⟨i, hi, _, rfl⟩ | ⟨i, hi, rfl, rfl⟩
  · exact absurd ht (by simp [lnB])
  · exact absurd ht (by simp [lnO])
  · exact absurd ht (by simp [lnC])
  · obtain ⟨k1, k2, k3⟩ := h1.2 (B.ts i) _ hd ha (hT.ts i hi) e
    exact ⟨k2, 1 + B.on + B.hn + i, LnM.lt hn, k3, hu.addT hi k1⟩
theorem LnM.none {s : ByteArray} {x : Bk} {t q : ByteArray} {d : Bool} (h : LnM s x t q d) (h1 : ¬ t = ⟨#[98, 111, 111, 107]⟩) (h2 : ¬ t = ⟨#[111, 98, 106, 101, 99, 116]⟩) (h3 : ¬ t = ⟨#[99, 104, 97, 110, 103, 101]⟩) (h4 : ¬ t = ⟨#[116, 105, 99, 107, 101, 116]⟩) (B : Bk) : ¬ TolB s B := fun hB => by
  obtain ⟨hd, k, n, hn, ht, e, ha, hu⟩ := h B hB
  rcases lns_cases hn with ⟨rfl, rfl⟩ | ⟨i, hi, _, rfl⟩ | ⟨i, hi, _, rfl⟩ | ⟨i, hi, _, rfl⟩
  · exact h1 ht
  · exact h2 ht
  · exact h3 ht
  · exact h4 ht
/-- two books that no form can tell apart -/
structure BkE (x B : Bk) : Prop where
  now : x.now = B.now
  fl : x.floor = B.floor
  on : x.on = B.on
  hn : x.hn = B.hn
  tn : x.tn = B.tn
  os : ∀ i, i < x.on → ObE (x.os i) (B.os i)
  hs : ∀ i, i < x.hn → (x.hs i).ver = (B.hs i).ver ∧ (x.hs i).gone = (B.hs i).gone ∧ ObE (x.hs i).ob (B.hs i).ob
  ts : ∀ i, i < x.tn → x.ts i = B.ts i
theorem LnI.done {s : ByteArray} {x : Bk} {d : Bool} (h : LnI s x ⟨#[]⟩ d) {B : Bk} (hB : TolB s B) : d = false ∧ BkE x B := by
  obtain ⟨hd, k, hk, e, hu⟩ := h B hB
  have hk2 : (lns B).length ≤ k := by
    rcases Nat.lt_or_ge k (lns B).length with h1 | h1
    · rw [List.drop_eq_getElem_cons h1, lnF_cons] at e
      have := congrArg List.length e
      simp at this
    · exact h1
  rw [lns_len] at hk hk2
  have a1 := hu.now; have a2 := hu.fl; have a3 := hu.on; have a4 := hu.hn; have a5 := hu.tn
  rw [if_neg (by omega)] at a1 a2
  exact ⟨hd, a1, a2, by omega, by omega, by omega, hu.os, hu.hs, hu.ts⟩
end Go.Proofs.YtkfbclopkgnacaaGreatDoor
namespace Go.Proofs.YtkfbclopkgnacaaGreatDoor
open Go.RowKit Go.Shelf
theorem Tryz.info38r : (Tryz.prog.info? 38).map (fun i => (i.zero, i.size, i.bytes)) = some (some (.agg #[.string ByteArray.empty, .string ByteArray.empty, .int .i64 0, .int .i64 0, .string ByteArray.empty, .bool false, .slice none 0 0]), 7, 96) := by kernel_rfl
theorem Tryz.info41r : (Tryz.prog.info? 41).map (fun i => (i.zero, i.size, i.bytes)) = some (some (.agg #[.int .i64 0, .bool false, .string ByteArray.empty, .string ByteArray.empty, .int .i64 0, .int .i64 0, .string ByteArray.empty, .bool false, .slice none 0 0]), 9, 112) := by kernel_rfl
theorem Tryz.info45r : (Tryz.prog.info? 45).map (fun i => (i.zero, i.size, i.bytes)) = some (some (.agg #[.string ByteArray.empty, .int .i64 0, .string ByteArray.empty, .int .i64 0, .int .i64 0]), 5, 56) := by kernel_rfl
/-- an append to a row of the call's own, as one step of a region that draws -/
theorem step_app {ops : Array Oper} {o : Oper} {a : Act} {w : World} {K : Act → World → Prop} {Q : Exit → Act → World → Prop} {E : Prop}
    (hg : o.guard = none) (s x : Operand) (T : TypeId) (hop : o.op = Op.call { callee := Callee.builtin Builtin.append, args := #[s, x], argTypes := #[T, T] })
    (base : Nat) (e : TypeId) (i : TypeInfo) (z : Value) (size bytes : Nat) (ht : Tryz.prog.underlying T = some (.slice e)) (hi : Tryz.prog.info? e = some i) (hz : i.zero = some z)
    (hsize : i.size = size) (hby : i.bytes = bytes) (hzs : z.cells.size = size) (hsz : 0 < size)
    (v : Value) (n : Nat) (xs : List Value) (hs : a.eval s = v) (hown : w.ownsRow base e size v n xs)
    (ad : Addr) (m c : Nat) (news : List Value) (hx : a.eval x = .slice (some ad) m c) (hl : news.length = m * size) (hnews : ∀ j u, news[j]? = some u → w.cell? (ad.add j) = some u) (h1 : ∀ u ∈ news, u.oneCell' = true)
    (h63 : n + m ≤ maxLen) (hbytes : (n + m) * bytes ≤ 140737488355328) (hbase : base ≤ w.heap.size)
    (hK : ∀ v' w', w'.ownsRow base e size v' (n + m) (xs ++ news) → w.grownBy w' v.ownBlock → (v'.ownBlock = v.ownBlock ∨ v'.ownBlock = some w.heap.size) → K (a.put o.dst v') w') :
    if Region.wanted o (yielded ops a.tmps) = true then Oper.wp Tryz.prog o a w K Q else E := by
  have hw : Region.wanted o (yielded ops a.tmps) = true := by simp [Region.wanted, hg]
  rw [if_pos hw]
  obtain ⟨v2, w2, hr, h2, h3, _, h5⟩ := run_append_own_at (P := Tryz.prog) w base T o.type e i z size bytes ht hi hz hsize hby hzs hsz v n xs hown ad m c news hl hnews h1 h63 hbytes hbase
  unfold Oper.wp execOp
  simp only [hop, resolve, invoke, builtin, Sem.run_bind, Sem.run_pure, Result.andThen_ok, List.map_toArray, List.map_cons, List.map_nil, hs, hx, hr]
  exact hK v2 w2 h2 h3 h5
/-- where the reading of lines stands in memory -/
structure RlS (w W : World) (x : Bk) (q : ByteArray) (d : Bool) (v1 v2 v3 : Value) : Prop where
  rd : RdAt W (w.heap.size + 2) q d
  bk : W.rangeAt (w.heap.size + 1) 0 [.int .i64 x.now, .int .i64 x.floor, v1, v2, v3]
  bt : W.there (w.heap.size + 1) 0 5
  rs : W.there w.heap.size 0 5
  bd : BdE W (w.heap.size + 3) x v1 v2 v3
  be : Below w.heap.size w W
  sz : w.heap.size + 3 ≤ W.heap.size
theorem range_fr {w w' : World} {b R : Nat} {cs : List Value} (h : w.rangeAt b 0 cs) (hf : Fr R (R + 1) w w') (hb : b < w.heap.size) (hR : b ≠ R) : w'.rangeAt b 0 cs := fun j v hv => by
  rw [hf.cell (p := ⟨b, 0 + j, none⟩) hb (by show b < R ∨ R + 1 ≤ b; omega)]
  exact h j v hv
theorem there_ne {w w' : World} {b o n R : Nat} (h : w.there b o n) (hf : Fr R (R + 1) w w') (hB : b < w.heap.size) (hR : b ≠ R) : w'.there b o n := fun j hj =>
  ⟨by rw [hf.cell (p := ⟨b, o + j, none⟩) hB (by show b < R ∨ R + 1 ≤ b; omega)]; exact (h j hj).1, (hf.frozen (p := ⟨b, o + j, none⟩) hB (by show b < R ∨ R + 1 ≤ b; omega)).trans (h j hj).2⟩
theorem BdE.frR {w w' : World} {base R : Nat} {x : Bk} {v1 v2 v3 : Value} (h : BdE w base x v1 v2 v3) (hf : Fr R (R + 1) w w') (hR : R < base) : BdE w' base x v1 v2 v3 := by
  obtain ⟨A1, C1, h1, A2, C2, h2, hB⟩ := h
  exact ⟨A1, C1, h1, A2, C2, h2, hB.fr (FrP.of_fr (P := fun q => q = R) hf (fun k a b => by omega)) (fun q hq e => by omega)⟩
/-- behind a step of the reader -/
theorem RlS.step {w W X : World} {x : Bk} {q q2 : ByteArray} {d d2 : Bool} {v1 v2 v3 : Value} (h : RlS w W x q d v1 v2 v3) (hf : Fr (w.heap.size + 2) (w.heap.size + 2 + 1) W X) (hr : RdAt X (w.heap.size + 2) q2 d2) : RlS w X x q2 d2 v1 v2 v3 := by
  have hz := h.sz
  have hz2 := hf.size
  exact ⟨hr, range_fr h.bk hf (by omega) (by omega), there_ne h.bt hf (by omega) (by omega), there_ne h.rs hf (by omega) (by omega), h.bd.frR hf (by omega), h.be.trans (hf.below (by omega) (by omega)), by omega⟩
theorem RlS.below {w W X : World} {x : Bk} {q : ByteArray} {d : Bool} {v1 v2 v3 : Value} (h : RlS w W x q d v1 v2 v3) (hf : Below W.heap.size W X) : RlS w X x q d v1 v2 v3 :=
  h.step (Fr.of_below hf) (h.rd.below hf (by have := h.sz; omega))
theorem RlS.er {w W : World} {x : Bk} {q : ByteArray} {d : Bool} {v1 v2 v3 : Value} (h : RlS w W x q d v1 v2 v3) (hE : ErC w) : ErC W := hE.below h.be
theorem range_set5 {W : World} {B : Nat} {a0 a1 a2 a3 a4 : Value} (h : W.rangeAt B 0 [a0, a1, a2, a3, a4]) (k : Nat) (hk : k < 5) (u : Value) : (W.setCell ⟨B, k, none⟩ u).rangeAt B 0 ([a0, a1, a2, a3, a4].set k u) := by
  intro j v hv
  rw [Nat.zero_add]
  have hj : j < 5 := by
    have := (List.getElem?_eq_some_iff.1 hv).1
    simpa using this
  by_cases e : j = k
  · subst e
    rw [List.getElem?_set_self (by simpa using hj)] at hv
    cases hv
    obtain ⟨u0, hu0⟩ : ∃ u0, [a0, a1, a2, a3, a4][j]? = some u0 := ⟨_, List.getElem?_eq_getElem (by simpa using hj)⟩
    have := h j u0 hu0
    rw [Nat.zero_add] at this
    exact World.cell?_setCell_same _ _ _ this
  · rw [List.getElem?_set_ne (fun e2 => e e2.symm)] at hv
    rw [World.cell?_setCell_other _ _ _ _ (fun e2 => e (by injection e2 with _ e3; exact e3.symm))]
    have := h j v hv
    rw [Nat.zero_add] at this
    exact this
theorem there_set {W : World} {b B o n k : Nat} {u : Value} (h : W.there b o n) : (W.setCell ⟨B, k, none⟩ u).there b o n := fun j hj => by
  refine ⟨?_, by rw [World.frozen?_setCell]; exact (h j hj).2⟩
  by_cases e : (⟨B, k, none⟩ : Addr) = ⟨b, o + j, none⟩
  · rw [e]
    obtain ⟨u0, hu0⟩ := Option.isSome_iff_exists.1 (h j hj).1
    rw [World.cell?_setCell_same _ _ _ hu0]
    rfl
  · rw [World.cell?_setCell_other _ _ _ _ e]
    exact (h j hj).1
theorem RlS.grown {w Y w6 : World} {x x' : Bk} {q : ByteArray} {d : Bool} {v1 v2 v3 v1' v2' v3' : Value} {ow : Option Nat} (S : RlS w Y x q d v1 v2 v3) (g6 : Y.grownBy w6 ow) (ho : ∀ g, ow = some g → w.heap.size + 3 ≤ g) (k : Nat) (hk : k < 5) (u : Value)
    (hl : [.int .i64 x.now, .int .i64 x.floor, v1, v2, v3].set k u = [.int .i64 x'.now, .int .i64 x'.floor, v1', v2', v3']) (bd : BdE w6 (w.heap.size + 3) x' v1' v2' v3') : RlS w (w6.setCell ⟨w.heap.size + 1, k, none⟩ u) x' q d v1' v2' v3' := by
  have F := FrP.of_grown g6
  have hz := S.sz
  have np : ∀ b, b < w.heap.size + 3 → ¬ (ow = some b) := fun b hb e => by have := ho b e; omega
  have hc : ∀ b o, b < w.heap.size + 3 → w6.cell? ⟨b, o, none⟩ = Y.cell? ⟨b, o, none⟩ := fun b o hb => F.cell (p := ⟨b, o, none⟩) (show b < Y.heap.size by omega) (np b hb)
  have hf : ∀ b o, b < w.heap.size + 3 → w6.frozen? ⟨b, o, none⟩ = Y.frozen? ⟨b, o, none⟩ := fun b o hb => F.frozen (p := ⟨b, o, none⟩) (show b < Y.heap.size by omega) (np b hb)
  have ht : ∀ b n, b < w.heap.size + 3 → Y.there b 0 n → w6.there b 0 n := fun b n hb h j hj => ⟨by rw [hc b _ hb]; exact (h j hj).1, by rw [hf b _ hb]; exact (h j hj).2⟩
  have hr : w6.rangeAt (w.heap.size + 1) 0 [.int .i64 x.now, .int .i64 x.floor, v1, v2, v3] := fun j v hv => by rw [hc _ _ (by omega)]; exact S.bk j v hv
  have ho2 : ∀ j, (w6.setCell ⟨w.heap.size + 1, k, none⟩ u).cell? ⟨w.heap.size + 2, j, none⟩ = Y.cell? ⟨w.heap.size + 2, j, none⟩ := fun j => by
    rw [World.cell?_setCell_other _ _ _ _ (fun e => by have := congrArg Addr.block e; simp at this)]
    exact hc _ _ (by omega)
  have hF2 : Fr (w.heap.size + 1) (w.heap.size + 1 + 1) w6 (w6.setCell ⟨w.heap.size + 1, k, none⟩ u) := (Fr.refl _ _ _).setCell (p := ⟨w.heap.size + 1, k, none⟩) (Nat.le_refl _) (Nat.lt_succ_self _) u
  refine ⟨⟨(ho2 0).trans S.rd.c0, (ho2 1).trans S.rd.c1, by rw [World.frozen?_setCell, hf _ _ (by omega)]; exact S.rd.f0, by rw [World.frozen?_setCell, hf _ _ (by omega)]; exact S.rd.f1⟩, ?_, there_set (ht _ _ (by omega) S.bt), there_set (ht _ _ (by omega) S.rs), bd.frR hF2 (by omega), ?_, ?_⟩
  · have := range_set5 hr k hk u
    rw [hl] at this
    exact this
  · exact (S.be.trans (F.below (B := w.heap.size) (fun b hb => np b (by omega)) (by omega))).trans (hF2.below (B := w.heap.size) (by omega) (by have := F.size; omega))
  · have := F.size
    rw [World.size_setCell]
    omega
theorem Y_below (w2 : World) (ob : Obj) : Below w2.heap.size w2 (w2.alloc ob) := below_alloc' w2 ob
theorem RlS.addO {w W w2 w6 : World} {x : Bk} {q q2 : ByteArray} {d d2 : Bool} {v1 v2 v3 v6 : Value} {A1 : Nat → Option Addr} {C1 h1 : Nat → Nat} {A2 : Nat → Option Addr} {C2 h2 : Nat → Nat} {c : Nat → Value} {o : Ob} {ad : Option Addr} {cap b' : Nat} {ob : Obj}
    (S : RlS w W x q d v1 v2 v3) (hB : BdB W (w.heap.size + 3) x v1 v2 v3 A1 C1 h1 A2 C2 h2) (hat : ∀ i, i < x.on → atOb c i (x.os i) (A1 i) (C1 i)) (S2 : RlS w w2 x q2 d2 v1 v2 v3) (hf : Fr (w.heap.size + 2) (w.heap.size + 2 + 1) W w2) (hs : StrsOwn w2 b' (b' + 1) ad o.hn o.hs) (hl : o.hn ≠ 0 → W.heap.size ≤ b' ∧ b' < w2.heap.size)
    (own6 : w6.ownsRow (w.heap.size + 3) 38 7 v6 (x.on + 1) (rowCells (x.on * 7) c ++ [.string o.kind, .string o.name, .int .i64 o.ver, .int .i64 o.born, .string o.text, .bool o.ending, .slice ad o.hn cap])) (g6 : (w2.alloc ob).grownBy w6 v1.ownBlock) (at6 : v6.ownBlock = v1.ownBlock ∨ v6.ownBlock = some (w2.alloc ob).heap.size) :
    RlS w (w6.setCell ⟨w.heap.size + 1, 2, none⟩ v6) { x with on := x.on + 1, os := updF x.os x.on o } q2 d2 v6 v2 v3 := by
  have hz := S.sz
  have hzf := hf.size
  have hf2 : Fr (w.heap.size + 2) (w.heap.size + 2 + 1) W (w2.alloc ob) := hf.thenBelow ((Y_below w2 ob).mono hzf)
  refine (S2.below (Y_below w2 ob)).grown g6 (fun g hg => (hB.o.own (Or.inl hg)).1) 2 (by omega) v6 rfl ⟨_, _, _, A2, C2, h2, BdB.addO hB (FrP.of_fr (P := fun q => q = w.heap.size + 2) hf2 (fun k a b => by omega)) (fun q hq e => by omega) (by omega) (b' := b') ?_ (fun h0 => ⟨(hl h0).1, ?_⟩) hat own6 g6 at6⟩
  · exact hs.frP (FrP.of_below (P := fun _ => False) (Y_below w2 ob)) (fun h0 => ⟨fun h => h, (hl h0).2⟩)
  · have := (hl h0).2
    simp
    omega
theorem RlS.addC {w W w2 w6 : World} {x : Bk} {q q2 : ByteArray} {d d2 : Bool} {v1 v2 v3 v6 : Value} {A1 : Nat → Option Addr} {C1 h1 : Nat → Nat} {A2 : Nat → Option Addr} {C2 h2 : Nat → Nat} {c : Nat → Value} {o : Ch} {ad : Option Addr} {cap b' : Nat} {ob : Obj}
    (S : RlS w W x q d v1 v2 v3) (hB : BdB W (w.heap.size + 3) x v1 v2 v3 A1 C1 h1 A2 C2 h2) (hat : ∀ i, i < x.hn → atCh c i (x.hs i) (A2 i) (C2 i)) (S2 : RlS w w2 x q2 d2 v1 v2 v3) (hf : Fr (w.heap.size + 2) (w.heap.size + 2 + 1) W w2) (hs : StrsOwn w2 b' (b' + 1) ad o.ob.hn o.ob.hs) (hl : o.ob.hn ≠ 0 → W.heap.size ≤ b' ∧ b' < w2.heap.size)
    (own6 : w6.ownsRow (w.heap.size + 3) 41 9 v6 (x.hn + 1) (rowCells (x.hn * 9) c ++ [.int .i64 o.ver, .bool o.gone, .string o.ob.kind, .string o.ob.name, .int .i64 o.ob.ver, .int .i64 o.ob.born, .string o.ob.text, .bool o.ob.ending, .slice ad o.ob.hn cap])) (g6 : (w2.alloc ob).grownBy w6 v2.ownBlock) (at6 : v6.ownBlock = v2.ownBlock ∨ v6.ownBlock = some (w2.alloc ob).heap.size) :
    RlS w (w6.setCell ⟨w.heap.size + 1, 3, none⟩ v6) { x with hn := x.hn + 1, hs := updF x.hs x.hn o } q2 d2 v1 v6 v3 := by
  have hz := S.sz
  have hzf := hf.size
  have hf2 : Fr (w.heap.size + 2) (w.heap.size + 2 + 1) W (w2.alloc ob) := hf.thenBelow ((Y_below w2 ob).mono hzf)
  refine (S2.below (Y_below w2 ob)).grown g6 (fun g hg => (hB.h.own (Or.inl hg)).1) 3 (by omega) v6 rfl ⟨A1, C1, h1, _, _, _, BdB.addC hB (FrP.of_fr (P := fun q => q = w.heap.size + 2) hf2 (fun k a b => by omega)) (fun q hq e => by omega) (by omega) (b' := b') ?_ (fun h0 => ⟨(hl h0).1, ?_⟩) hat own6 g6 at6⟩
  · exact hs.frP (FrP.of_below (P := fun _ => False) (Y_below w2 ob)) (fun h0 => ⟨fun h => h, (hl h0).2⟩)
  · have := (hl h0).2
    simp
    omega
theorem RlS.addT {w W w2 w6 : World} {x : Bk} {q q2 : ByteArray} {d d2 : Bool} {v1 v2 v3 v6 : Value} {A1 : Nat → Option Addr} {C1 h1 : Nat → Nat} {A2 : Nat → Option Addr} {C2 h2 : Nat → Nat} {c : Nat → Value} {o : Ti} {ob : Obj}
    (S : RlS w W x q d v1 v2 v3) (hB : BdB W (w.heap.size + 3) x v1 v2 v3 A1 C1 h1 A2 C2 h2) (hat : ∀ i, i < x.tn → atTi c i (x.ts i)) (S2 : RlS w w2 x q2 d2 v1 v2 v3) (hf : Fr (w.heap.size + 2) (w.heap.size + 2 + 1) W w2)
    (own6 : w6.ownsRow (w.heap.size + 3) 45 5 v6 (x.tn + 1) (rowCells (x.tn * 5) c ++ [.string o.client, .int .i64 o.num, .string o.print, .int .i64 o.code, .int .i64 o.ver])) (g6 : (w2.alloc ob).grownBy w6 v3.ownBlock) (at6 : v6.ownBlock = v3.ownBlock ∨ v6.ownBlock = some (w2.alloc ob).heap.size) :
    RlS w (w6.setCell ⟨w.heap.size + 1, 4, none⟩ v6) { x with tn := x.tn + 1, ts := updF x.ts x.tn o } q2 d2 v1 v2 v6 := by
  have hz := S.sz
  have hzf := hf.size
  have hf2 : Fr (w.heap.size + 2) (w.heap.size + 2 + 1) W (w2.alloc ob) := hf.thenBelow ((Y_below w2 ob).mono hzf)
  exact (S2.below (Y_below w2 ob)).grown g6 (fun g hg => (hB.t.own hg).1) 4 (by omega) v6 rfl ⟨A1, C1, h1, A2, C2, h2, BdB.addT hB (FrP.of_fr (P := fun q => q = w.heap.size + 2) hf2 (fun k a b => by omega)) (fun q hq e => by omega) hat own6 g6 at6⟩
/-- a cell that an append to a list leaves as it was -/
theorem cell_grown {w Y w6 : World} {ow : Option Nat} (g6 : Y.grownBy w6 ow) (ho : ∀ g, ow = some g → w.heap.size + 3 ≤ g) (hz : w.heap.size + 3 ≤ Y.heap.size) {o : Nat} {u : Value} (hc : Y.cell? ⟨w.heap.size + 1, o, none⟩ = some u) (hf : Y.frozen? ⟨w.heap.size + 1, o, none⟩ = false) : w6.cell? ⟨w.heap.size + 1, o, none⟩ = some u ∧ w6.frozen? ⟨w.heap.size + 1, o, none⟩ = false := by
  have F := FrP.of_grown g6
  have np : ¬ (ow = some (w.heap.size + 1)) := fun e => by have := ho _ e; omega
  exact ⟨(F.cell (p := ⟨w.heap.size + 1, o, none⟩) (show w.heap.size + 1 < Y.heap.size by omega) np).trans hc, (F.frozen (p := ⟨w.heap.size + 1, o, none⟩) (show w.heap.size + 1 < Y.heap.size by omega) np).trans hf⟩
end Go.Proofs.YtkfbclopkgnacaaGreatDoor
namespace Go.Proofs.YtkfbclopkgnacaaGreatDoor
open Go.RowKit Go.Shelf
def updB (f : Nat → Bool) (i : Nat) : Nat → Bool := fun j => bif j == i then true else f j
def RP (n : Nat) (ops : Array Oper) (mk : (Nat → Value) → Array Value) (I : (Nat → Bool) → (Nat → Value) → World → Prop) (Fin1 Fin2 Fin : Act → World → Prop) (l : Array Bool) (a : Act) (X : World) : Prop :=
  l.size = n + 3 ∧ (∀ i j, Waits ops i j → l.getD i false = true → l.getD j false = true) ∧
    (l.getD (n + 2) false = true → (∀ i, i < n + 3 → l.getD i false = true) ∧ Fin a X) ∧
    (l.getD (n + 2) false = false → l.getD (n + 1) false = true → (∀ i, i < n + 2 → l.getD i false = true) ∧ Fin2 a X) ∧
    (l.getD (n + 2) false = false → l.getD (n + 1) false = false → l.getD n false = true → (∀ i, i < n + 1 → l.getD i false = true) ∧ Fin1 a X) ∧
    (l.getD (n + 2) false = false → l.getD (n + 1) false = false → l.getD n false = false → ∃ t : Nat → Value, a = ⟨mk t, []⟩ ∧ I (fun i => l.getD i false) t X)
/-- a drawn region whose last three operations come behind all others, whatever those do to memory -/
theorem regionP {P : Program} {id : Nat} {ops : Array Oper} {Q : Exit → Act → World → Prop} {a0 : Act} {W : World} (hm : P.follows .mixedOrders = true) (n : Nat)
    (mk : (Nat → Value) → Array Value) (t0 : Nat → Value) (I : (Nat → Bool) → (Nat → Value) → World → Prop) (Fin1 Fin2 Fin : Act → World → Prop)
    (hn : ops.size = n + 3) (hord : ((List.range ops.size).all fun i => match ops[i]? with | some o => o.after.all (fun e => decide (e.on < i)) | none => true) = true)
    (hlast : ((List.range (n + 2)).all fun j => match ops[n + 2]? with | some o => o.after.any (fun e => Region.binds .any e && e.on == j) | none => false) = true ∨ ((List.range (n + 1)).all fun j => match ops[n + 2]? with | some o => o.after.any (fun e => Region.binds .any e && e.on == j) | none => false) = true ∧ (match ops[n + 2]? with | some o => o.after.any (fun e => Region.binds .any e && e.on == n + 1) | none => false) = true)
    (hlast2 : ((List.range (n + 1)).all fun j => match ops[n + 1]? with | some o => o.after.any (fun e => Region.binds .any e && e.on == j) | none => false) = true)
    (hanc : ((List.range n).all fun j => (List.range (n + 1)).any fun k => match ops[k]? with | some o => decide (j < k) && o.after.any (fun e => Region.binds .any e && e.on == j) | none => false) = true)
    (h0 : a0 = ⟨mk t0, []⟩) (hI : ∀ f : Nat → Bool, (∀ i, f i = false) → I f t0 W.drew)
    (sg : ∀ i, i < n → ∀ (f : Nat → Bool) (t : Nat → Value) X K, I f t X → f i = false → (∀ j, Waits ops i j → f j = true) → (∀ v Y, (∀ g : Nat → Bool, g i = true → (∀ j, ¬ j = i → g j = f j) → I g (updT t i v) Y) → K ⟨mk (updT t i v), []⟩ Y) → wpOp P ops Q i K ⟨mk t, []⟩ X)
    (s1 : ∀ (f : Nat → Bool) (t : Nat → Value) X K, I f t X → (∀ j, j < n → f j = true) → (∀ a Y, Fin1 a Y → K a Y) → wpOp P ops Q n K ⟨mk t, []⟩ X)
    (s2 : ∀ a X K, Fin1 a X → (∀ a Y, Fin2 a Y → K a Y) → wpOp P ops Q (n + 1) K a X)
    (s3 : ∀ a X K, Fin2 a X → (∀ a Y, Fin a Y → K a Y) → wpOp P ops Q (n + 2) K a X)
    (hfin : ∀ a X, Fin a X → Q .normal a X) : (Code.region id ops true).wp P Q a0 W := by
  refine wp_region_inv hm (RP n ops mk I Fin1 Fin2 Fin) ?_ ?_ ?_ ?_
  · have hz : ∀ i, (Array.replicate ops.size false).getD i false = false := fun i => by simp [Array.getD]
    refine ⟨by simp [hn], fun i j _ h => ?_, fun h => ?_, fun _ h => ?_, fun _ _ h => ?_, fun _ _ _ => ⟨t0, h0, hI _ hz⟩⟩ <;> (rw [hz] at h; cases h)
  · rintro l a X ⟨hs, _⟩
    rw [hs, hn]
  · rintro l a X ⟨hs, _, h6, _⟩ hr
    have AL := all_listed hord (by rw [hs, hn]) hr
    exact hfin a X (h6 (AL (n + 2) (by omega))).2
  · rintro l a X i ⟨hs, hcl, h6, h7, h8, hg⟩ hr
    obtain ⟨hu, o, ho, hall⟩ := mem_ready.1 hr
    have di : ∀ j, Waits ops i j → l.getD j false = true := by
      rintro j ⟨o', ho', e, he, hb, rfl⟩
      rw [ho] at ho'
      obtain rfl : o = o' := by simpa using ho'
      exact hall e he hb
    have hi7 : i < n + 3 := by
      rcases Nat.lt_or_ge i (n + 3) with h | h
      · exact h
      · rw [Array.getElem?_eq_none (by omega)] at ho
        cases ho
    have hui : l.getD i false = false := by
      have : l.getD i true = false := hu
      simpa [Array.getD, hs, hi7] using this
    have l6 : l.getD (n + 2) false = false := by
      cases h : l.getD (n + 2) false with
      | false => rfl
      | true => rw [(h6 h).1 i hi7] at hui; cases hui
    have kp : ∀ j, ¬ j = i → (l.setIfInBounds i true).getD j false = l.getD j false := fun j hj => by rw [getD_set (by omega), if_neg hj]
    have ki : (l.setIfInBounds i true).getD i false = true := by rw [getD_set (by omega), if_pos rfl]
    have hs' : (l.setIfInBounds i true).size = n + 3 := by simp [hs]
    have ku : ∀ j, l.getD j false = true → (l.setIfInBounds i true).getD j false = true := fun j h => by
      by_cases e : j = i
      · subst e; exact ki
      · rw [kp j e]; exact h
    have hcl' : ∀ p j, Waits ops p j → (l.setIfInBounds i true).getD p false = true → (l.setIfInBounds i true).getD j false = true := fun p j hj h => by
      by_cases e : p = i
      · subst e; exact ku j (di j hj)
      · rw [kp p e] at h; exact ku j (hcl p j hj h)
    have any1 : ∀ j, (match ops[i]? with | some o => o.after.any (fun e => Region.binds .any e && e.on == j) | none => false) = true → l.getD j false = true := fun j h1 => by
      rw [ho] at h1
      obtain ⟨k, hk, h2⟩ := Array.any_eq_true.1 h1
      simp only [Bool.and_eq_true, beq_iff_eq] at h2
      exact di j ⟨o, ho, o.after[k], Array.getElem_mem hk, h2.1, h2.2⟩
    by_cases hin : i = n + 2
    · subst hin
      have al : ∀ j, j < n + 2 → l.getD j false = true := fun j hj => by
        rcases hlast with h | ⟨h, h'⟩
        · exact any1 j (List.all_eq_true.1 h j (List.mem_range.2 hj))
        · by_cases e : j = n + 1
          · subst e; exact any1 _ h'
          · exact any1 j (List.all_eq_true.1 h j (List.mem_range.2 (by omega)))
      have hF := (h7 l6 (al (n + 1) (by omega))).2
      clear hr hu ho h6 hg any1
      refine s3 a X _ hF (fun a Y hY => ⟨hs', hcl', fun _ => ⟨fun j hj => ?_, hY⟩, fun h => ?_, fun h => ?_, fun h => ?_⟩)
      · by_cases e : j = n + 2
        · subst e; exact ki
        · exact ku j (al j (by omega))
      all_goals (rw [ki] at h; cases h)
    · have hno : (l.setIfInBounds i true).getD (n + 2) false = false := by rw [kp (n + 2) (fun e => hin e.symm)]; exact l6
      have l5 : l.getD (n + 1) false = false := by
        cases h : l.getD (n + 1) false with
        | false => rfl
        | true => rw [(h7 l6 h).1 i (by omega)] at hui; cases hui
      by_cases hin1 : i = n + 1
      · subst hin1
        have al : ∀ j, j < n + 1 → l.getD j false = true := fun j hj => any1 j (List.all_eq_true.1 hlast2 j (List.mem_range.2 hj))
        have hF := (h8 l6 l5 (al n (by omega))).2
        clear hr hu ho h6 h7 hg any1
        refine s2 a X _ hF (fun a Y hY => ⟨hs', hcl', fun h => ?_, fun _ _ => ⟨fun j hj => ?_, hY⟩, fun _ h => ?_, fun _ h => ?_⟩)
        · rw [hno] at h; cases h
        · by_cases e : j = n + 1
          · subst e; exact ki
          · exact ku j (al j (by omega))
        all_goals (rw [ki] at h; cases h)
      · have hno1 : (l.setIfInBounds i true).getD (n + 1) false = false := by rw [kp (n + 1) (fun e => hin1 e.symm)]; exact l5
        have l4 : l.getD n false = false := by
          cases h : l.getD n false with
          | false => rfl
          | true => rw [(h8 l6 l5 h).1 i (by omega)] at hui; cases hui
        obtain ⟨t, rfl, hIt⟩ := hg l6 l5 l4
        by_cases hin2 : i = n
        · subst hin2
          have al := fun j hj => anc_all (f := fun j => l.getD j false = true) hanc hcl di i j (by omega) hj
          clear hr hu ho h6 h7 h8 hg any1
          refine s1 _ t X _ hIt (fun j hj => al j hj) (fun a Y hY => ⟨hs', hcl', fun h => ?_, fun _ h => ?_, fun _ _ _ => ⟨fun j hj => ?_, hY⟩, fun _ _ h => ?_⟩)
          · rw [hno] at h; cases h
          · rw [hno1] at h; cases h
          · by_cases e : j = i
            · subst e; exact ki
            · exact ku j (al j (by omega))
          · rw [ki] at h; cases h
        · have hno2 : (l.setIfInBounds i true).getD n false = false := by rw [kp n (fun e => hin2 e.symm)]; exact l4
          clear hr hu ho h6 h7 h8 hg any1
          refine sg i (by omega) _ t X _ hIt hui di (fun v Y hv => ⟨hs', hcl', fun h => ?_, fun _ h => ?_, fun _ _ h => ?_, fun _ _ _ => ⟨updT t i v, rfl, hv _ ki kp⟩⟩)
          · rw [hno] at h; cases h
          · rw [hno1] at h; cases h
          · rw [hno2] at h; cases h
end Go.Proofs.YtkfbclopkgnacaaGreatDoor
