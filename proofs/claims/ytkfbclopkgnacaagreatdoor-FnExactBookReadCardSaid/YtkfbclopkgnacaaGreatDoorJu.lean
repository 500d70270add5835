import Derived.Test.YtkfbclopkgnacaaGreatDoorJs
import Derived.Test.YtkfbclopkgnacaaGreatDoorJn
namespace Go.Proofs.YtkfbclopkgnacaaGreatDoor
open Go.RowKit Go.Shelf
/-- how far spec has read -/
def LnS (s : ByteArray) (x : Bk) (k : Nat) : Prop := ∀ B, TolB s B → Upto B k x
theorem told_lines {s : ByteArray} {B : Bk} (h : TolB s B) : cutG 10 [] [] s.data.toList = (lns B).map (fun n => (⟨n.l.toArray⟩ : ByteArray)) ++ [⟨#[]⟩] := by
  have hT := valid_t h.ok
  rw [h.fm, cutG_lns (lns B) [] (fun n hn c hc => ?_)]
  · rfl
  · obtain ⟨h1, h2⟩ := prt_ln hT hn
    unfold Ln.l at hc
    rcases List.mem_append.1 hc with hc | hc
    · exact (h1.ne c hc).2
    · exact h2.ne c hc
/-- the line that is read: its first word, and the rest -/
theorem told_line {s : ByteArray} {B : Bk} (h : TolB s B) {xs : List ByteArray} (hx : xs = cutG 10 [] [] s.data.toList) {k : Nat} (hk : k + 1 < xs.length) {L : ByteArray} (hL : xs[k]? = some L) : ∃ n, (lns B)[k]? = some n ∧ wH L = n.hd ∧ (wR L).data.toList = jn n.ws := by
  have hT := valid_t h.ok
  rw [told_lines h] at hx
  have hkl : k < (lns B).length := by
    rw [hx] at hk
    simp at hk
    exact hk
  obtain ⟨n, hn⟩ : ∃ n, (lns B)[k]? = some n := ⟨_, List.getElem?_eq_getElem hkl⟩
  have e : L = ⟨n.l.toArray⟩ := by
    rw [hx, List.getElem?_append_left (by simpa using hkl), List.getElem?_map, hn] at hL
    simpa using hL.symm
  obtain ⟨h1, _⟩ := prt_ln hT (List.mem_of_getElem? hn)
  obtain ⟨a, b⟩ := wd_step (s := L) (x := n.hd) (zs := n.ws) (by rw [e]; rfl) h1
  exact ⟨n, hn, a, b⟩
theorem LnS.start (s : ByteArray) : LnS s bk0 0 := fun B _ => Upto.start B
theorem LnS.book {s : ByteArray} {x : Bk} {k : Nat} {xs : List ByteArray} {L : ByteArray} {a f : Int} (h : LnS s x k) (hx : xs = cutG 10 [] [] s.data.toList) (hk : k + 1 < xs.length) (hL : xs[k]? = some L) (ht : wH L = ⟨#[98, 111, 111, 107]⟩) (h1 : NuT (wH (wR L)) a) (h2 : NuT (wH (wR (wR L))) f) : LnS s { x with now := a, floor := f } (k + 1) := by
  intro B hB
  obtain ⟨n, hn, e1, e2⟩ := told_line hB hx hk hL
  have hT := valid_t hB.ok
  have hu := h B hB
  rw [ht] at e1
  rcases lns_cases hn with ⟨rfl, rfl⟩ | ⟨i, _, _, rfl⟩ | ⟨i, _, _, rfl⟩ | ⟨i, _, _, rfl⟩
  · obtain ⟨a1, b1⟩ := wd_step (s := wR L) (x := dS B.now.toNat) (zs := [dS B.floor.toNat]) e2 (wrd_dec _)
    obtain ⟨a2, b2⟩ := wd_step (s := wR (wR L)) (x := dS B.floor.toNat) (zs := []) b1 (wrd_dec _)
    have c1 := h1.2 _ (by have := hT.v.ln; omega) a1
    have c2 := h2.2 _ (by have := hT.v.lf; omega) a2
    rw [← hT.v.en] at c1
    rw [← hT.v.ef] at c2
    subst c1 c2
    exact hu.head
  all_goals exact absurd e1 (by simp [lnO, lnC, lnT])
theorem LnS.obj {s : ByteArray} {x : Bk} {k : Nat} {xs : List ByteArray} {L : ByteArray} {o : Ob} (h : LnS s x k) (hx : xs = cutG 10 [] [] s.data.toList) (hk : k + 1 < xs.length) (hL : xs[k]? = some L) (ht : wH L = ⟨#[111, 98, 106, 101, 99, 116]⟩) (h1 : ObS (wR L) o) : LnS s { x with on := x.on + 1, os := updF x.os x.on o } (k + 1) := by
  intro B hB
  obtain ⟨n, hn, e1, e2⟩ := told_line hB hx hk hL
  have hT := valid_t hB.ok
  have hu := h B hB
  rw [ht] at e1
  rcases lns_cases hn with ⟨rfl, rfl⟩ | ⟨i, hi, rfl, rfl⟩ | ⟨i, _, _, rfl⟩ | ⟨i, _, _, rfl⟩
  · exact absurd e1 (by simp [lnB])
  · exact hu.addO hi (h1.2 _ (hT.os i hi) e2)
  all_goals exact absurd e1 (by simp [lnC, lnT])
theorem LnS.chg {s : ByteArray} {x : Bk} {k : Nat} {xs : List ByteArray} {L : ByteArray} {ob : Ob} (h : LnS s x k) (hx : xs = cutG 10 [] [] s.data.toList) (hk : k + 1 < xs.length) (hL : xs[k]? = some L) (ht : wH L = ⟨#[99, 104, 97, 110, 103, 101]⟩) (h1 : ObS (wR (wR L)) ob) : LnS s { x with hn := x.hn + 1, hs := updF x.hs x.hn ⟨ob.ver, (wH (wR L)).toList == [103, 111, 110, 101], ob⟩ } (k + 1) := by
  intro B hB
  obtain ⟨n, hn, e1, e2⟩ := told_line hB hx hk hL
  have hT := valid_t hB.ok
  have hu := h B hB
  rw [ht] at e1
  rcases lns_cases hn with ⟨rfl, rfl⟩ | ⟨i, hi, _, rfl⟩ | ⟨i, hi, rfl, rfl⟩ | ⟨i, _, _, rfl⟩
  · exact absurd e1 (by simp [lnB])
  · exact absurd e1 (by simp [lnO])
  · obtain ⟨a1, b1⟩ := wd_step (s := wR L) (x := wrdS (B.hs i).gone goneW) (zs := obW (B.hs i).ob) e2 (wrd_gone _)
    have k1 := h1.2 _ (hT.hs i hi).1 b1
    exact hu.addC hi ⟨by show ob.ver = _; rw [k1.v, (hT.hs i hi).2], by show ((wH (wR L)).toList == [103, 111, 110, 101]) = _; rw [a1]; exact gone_is _, k1⟩
  · exact absurd e1 (by simp [lnT])
theorem LnS.tic {s : ByteArray} {x : Bk} {k : Nat} {xs : List ByteArray} {L pr : ByteArray} {o : Ti} (h : LnS s x k) (hx : xs = cutG 10 [] [] s.data.toList) (hk : k + 1 < xs.length) (hL : xs[k]? = some L) (ht : wH L = ⟨#[116, 105, 99, 107, 101, 116]⟩) (hp : ∀ te q2, rN (wR L) 4 = quS te ++ q2 → pr = te) (h1 : (o.client = wH (rN (wR L) 0) ∧ o.print = pr) ∧ NuT (wH (rN (wR L) 1)) o.num ∧ NuT (wH (rN (wR L) 2)) o.code ∧ NuT (wH (rN (wR L) 3)) o.ver) : LnS s { x with tn := x.tn + 1, ts := updF x.ts x.tn o } (k + 1) := by
  intro B hB
  obtain ⟨n, hn, e1, e2⟩ := told_line hB hx hk hL
  have hT := valid_t hB.ok
  have hu := h B hB
  rw [ht] at e1
  rcases lns_cases hn with ⟨rfl, rfl⟩ | ⟨i, hi, _, rfl⟩ | ⟨i, hi, _, rfl⟩ | ⟨i, hi, rfl, rfl⟩
  · exact absurd e1 (by simp [lnB])
  · exact absurd e1 (by simp [lnO])
  · exact absurd e1 (by simp [lnC])
  · have ho := hT.ts i hi
    obtain ⟨a0, b0⟩ := wd_step (s := rN (wR L) 0) e2 (wrd_name ho.c)
    obtain ⟨a1, b1⟩ := wd_step (s := rN (wR L) 1) b0 (wrd_dec _)
    obtain ⟨a2, b2⟩ := wd_step (s := rN (wR L) 2) b1 (wrd_dec _)
    obtain ⟨a3, b3⟩ := wd_step (s := rN (wR L) 3) b2 (wrd_dec _)
    have e5 : rN (wR L) 4 = quS (B.ts i).print ++ ⟨#[]⟩ := pa_ext (by
      rw [pa_append]
      exact b3)
    have c0 := hp _ _ e5
    have c1 := h1.2.1.2 _ (by have := ho.ln; omega) a1
    have c2 := h1.2.2.1.2 _ (by have := ho.ld; omega) a2
    have c3 := h1.2.2.2.2 _ (by have := ho.lv; omega) a3
    rw [← ho.n] at c1
    rw [← ho.d] at c2
    rw [← ho.v] at c3
    refine hu.addT hi ?_
    obtain ⟨oc, on, op, od, ov⟩ := o
    have d1 := h1.1.1
    have d2 := h1.1.2
    simp only at c1 c2 c3 d1 d2
    rw [c1, c2, c3, d1, d2, a0, c0]
theorem LnS.none {s : ByteArray} {x : Bk} {k : Nat} {xs : List ByteArray} {L : ByteArray} (hx : xs = cutG 10 [] [] s.data.toList) (hk : k + 1 < xs.length) (hL : xs[k]? = some L) (h1 : ¬ wH L = ⟨#[98, 111, 111, 107]⟩) (h2 : ¬ wH L = ⟨#[111, 98, 106, 101, 99, 116]⟩) (h3 : ¬ wH L = ⟨#[99, 104, 97, 110, 103, 101]⟩) (h4 : ¬ wH L = ⟨#[116, 105, 99, 107, 101, 116]⟩) : LnS s x (k + 1) := fun B hB => by
  obtain ⟨n, hn, e1, e2⟩ := told_line hB hx hk hL
  rcases lns_cases hn with ⟨_, rfl⟩ | ⟨i, hi, _, rfl⟩ | ⟨i, hi, _, rfl⟩ | ⟨i, hi, _, rfl⟩
  · exact absurd e1 h1
  · exact absurd e1 h2
  · exact absurd e1 h3
  · exact absurd e1 h4
theorem LnS.done {s : ByteArray} {x : Bk} {k : Nat} {xs : List ByteArray} (h : LnS s x k) (hx : xs = cutG 10 [] [] s.data.toList) (hk : ¬ k + 1 < xs.length) {B : Bk} (hB : TolB s B) : BkE x B := by
  have hu := h B hB
  rw [told_lines hB] at hx
  rw [hx] at hk
  simp only [List.length_append, List.length_map, List.length_cons, List.length_nil, lns_len] at hk
  have a1 := hu.now; have a2 := hu.fl; have a3 := hu.on; have a4 := hu.hn; have a5 := hu.tn
  rw [if_neg (by omega)] at a1 a2
  exact ⟨a1, a2, by omega, by omega, by omega, hu.os, hu.hs, hu.ts⟩
theorem SpS.nums0 {w W1 W : World} {x : Bk} {v1 v2 v3 : Value} (S : SpS w W1 W x v1 v2 v3) (a : Int) : SpS w W1 (W.setCell ⟨w.heap.size + 1, 0, none⟩ (.int .i64 a)) { x with now := a } v1 v2 v3 := by
  obtain ⟨A1, C1, h1, A2, C2, h2, hB⟩ := S.bd
  exact S.grown (grown_refl W) (fun g hg => by cases hg) 0 (by omega) _ rfl ⟨A1, C1, h1, A2, C2, h2, hB.o, hB.h, hB.t, hB.d12, hB.d13, hB.d23⟩
theorem SpS.nums1 {w W1 W : World} {x : Bk} {v1 v2 v3 : Value} (S : SpS w W1 W x v1 v2 v3) (a : Int) : SpS w W1 (W.setCell ⟨w.heap.size + 1, 1, none⟩ (.int .i64 a)) { x with floor := a } v1 v2 v3 := by
  obtain ⟨A1, C1, h1, A2, C2, h2, hB⟩ := S.bd
  exact S.grown (grown_refl W) (fun g hg => by cases hg) 1 (by omega) _ rfl ⟨A1, C1, h1, A2, C2, h2, hB.o, hB.h, hB.t, hB.d12, hB.d13, hB.d23⟩
/-- what all lines come to, once it is known whether the text is a form -/
theorem SpS.out {s : ByteArray} {w W1 W : World} {x : Bk} {v1 v2 v3 : Value} (hs : (s.size : Int) ≤ 200000) (S : SpS w W1 W x v1 v2 v3) (hf : FitB x) (hc : x.on + x.hn + x.tn ≤ 1048577) (hl : ∀ B, TolB s B → BkE x B) :
    ∃ (y : Bk) (p : Pl) (c1 c2 c3 : Nat), W.rangeAt (w.heap.size + 1) 0 [.int .i64 y.now, .int .i64 y.floor, .slice p.a1 y.on c1, .slice p.a2 y.hn c2, .slice p.a3 y.tn c3] ∧ BkAt W y p ∧ (∀ q, blkB p y q → W1.heap.size ≤ q) ∧ BkFit y ∧ ((∃ B, TolB s B) → formS y = s) ∧ (¬ s = ⟨#[]⟩ → formS y = s → TolB s y) ∧ (∀ B, TolB s B → BkE y B) := by
  obtain ⟨p, c1, c2, c3, rfl, rfl, rfl, hat, hlo⟩ := S.bd.at
  have hfit := fit_of hf hc
  by_cases ht : ∃ B, TolB s B
  · obtain ⟨B, hB⟩ := ht
    have he := hl B hB
    have hbk := S.bk
    rw [he.now, he.fl, he.on, he.hn, he.tn] at hbk
    exact ⟨B, p, c1, c2, c3, hbk, hat.congr he, fun q hq => hlo q (he.blkB hq), fit_e hfit he, fun _ => hB.form hs, fun _ _ => hB, fun B' hB' => he.link (hl B' hB')⟩
  · exact ⟨x, p, c1, c2, c3, S.bk, hat, hlo, hfit, fun h => absurd h ht, fun h0 h => told_of h h0, fun B hB => absurd ⟨B, hB⟩ ht⟩
end Go.Proofs.YtkfbclopkgnacaaGreatDoor
namespace Go.Proofs.YtkfbclopkgnacaaGreatDoor
open Go.RowKit Go.Shelf
theorem cutG_pos (b : UInt8) : ∀ (l : List UInt8) (out : List ByteArray) (cur : List UInt8), 1 ≤ (cutG b out cur l).length
  | [], out, cur => by simp [cutG]
  | c :: l, out, cur => by
    rw [cutG]
    split
    · exact cutG_pos b l _ _
    · exact cutG_pos b l _ _
theorem spS_start (w W1 : World) (h : Below ((w.alloc (.cells #[.int .i64 0, .int .i64 0, .slice none 0 0, .slice none 0 0, .slice none 0 0] 26)).alloc (.cells #[.int .i64 0, .int .i64 0, .slice none 0 0, .slice none 0 0, .slice none 0 0] 26)).heap.size ((w.alloc (.cells #[.int .i64 0, .int .i64 0, .slice none 0 0, .slice none 0 0, .slice none 0 0] 26)).alloc (.cells #[.int .i64 0, .int .i64 0, .slice none 0 0, .slice none 0 0, .slice none 0 0] 26)) W1) : SpS w W1 W1 bk0 (.slice none 0 0) (.slice none 0 0) (.slice none 0 0) ∧ W1.there w.heap.size 0 5 ∧ Below w.heap.size w W1 := by
  have t1 := there_new (w.alloc (.cells #[.int .i64 0, .int .i64 0, .slice none 0 0, .slice none 0 0, .slice none 0 0] 26)) #[.int .i64 0, .int .i64 0, .slice none 0 0, .slice none 0 0, .slice none 0 0] 26
  have t0 := there_new w #[.int .i64 0, .int .i64 0, .slice none 0 0, .slice none 0 0, .slice none 0 0] 26
  have e1 : (w.alloc (.cells #[.int .i64 0, .int .i64 0, .slice none 0 0, .slice none 0 0, .slice none 0 0] 26)).heap.size = w.heap.size + 1 := by simp
  have e2 : ((w.alloc (.cells #[.int .i64 0, .int .i64 0, .slice none 0 0, .slice none 0 0, .slice none 0 0] 26)).alloc (.cells #[.int .i64 0, .int .i64 0, .slice none 0 0, .slice none 0 0, .slice none 0 0] 26)).heap.size = w.heap.size + 2 := by simp
  rw [e1] at t1
  have hz := h.size
  rw [e2] at hz
  have r1 : ((w.alloc (.cells #[.int .i64 0, .int .i64 0, .slice none 0 0, .slice none 0 0, .slice none 0 0] 26)).alloc (.cells #[.int .i64 0, .int .i64 0, .slice none 0 0, .slice none 0 0, .slice none 0 0] 26)).rangeAt (w.heap.size + 1) 0 [.int .i64 0, .int .i64 0, .slice none 0 0, .slice none 0 0, .slice none 0 0] := fun j v hv => by
    rw [Nat.zero_add, ← e1, World.cell?_alloc_new]
    simpa using hv
  have t0b : ((w.alloc (.cells #[.int .i64 0, .int .i64 0, .slice none 0 0, .slice none 0 0, .slice none 0 0] 26)).alloc (.cells #[.int .i64 0, .int .i64 0, .slice none 0 0, .slice none 0 0, .slice none 0 0] 26)).there w.heap.size 0 5 := there_below t0 (below_alloc' _ _) (by simp)
  refine ⟨⟨?_, there_below t1 h (by omega), ⟨_, _, _, _, _, _, BdB.start _ _⟩, Fr.refl _ _ _, hz⟩, there_below t0b h (by omega), (((Below.refl _ _).alloc (Nat.le_refl _) _).alloc (by simp) _).trans (h.mono (by omega))⟩
  exact range_below r1 h (by omega)
theorem own_some {w : World} {base n : Nat} {v : Value} {l : List Value} (h : w.ownsRow base 9 1 v n l) (hn : 1 ≤ n) : ∃ g cap, v = .slice (some ⟨g, 0, none⟩) n cap ∧ base ≤ g := by
  rcases h.2 with ⟨_, h0⟩ | ⟨g, c, cu, e, h1, _⟩
  · omega
  · exact ⟨g, c, e, h1⟩
theorem tol_ne {s : ByteArray} {B : Bk} (h : TolB s B) : ¬ s = ⟨#[]⟩ := fun e => by
  have := h.fm
  rw [e] at this
  unfold lns at this
  rw [lnF_cons] at this
  have := congrArg List.length this
  simp at this
/-- the lines, as they lie in memory -/
def LiC (W : World) (gl : Nat) (xs : List ByteArray) : Prop := ∀ j L, xs[j]? = some L → W.cell? ⟨gl, j, none⟩ = some (.string L)
theorem LiC.of {w W1 W : World} {x : Bk} {v1 v2 v3 : Value} {gl : Nat} {xs : List ByteArray} (h : LiC W1 gl xs) (S : SpS w W1 W x v1 v2 v3) (h1 : gl < W1.heap.size) (h2 : w.heap.size + 1 < gl) : LiC W gl xs := fun j L hL => by
  rw [S.fr.cell (p := ⟨gl, j, none⟩) h1 (Or.inr (by show w.heap.size + 1 + 1 ≤ gl; omega))]
  exact h j L hL
set_option maxRecDepth 100000 in
set_option maxHeartbeats 8000000 in
theorem specRead_any (s : ByteArray) (hs : (s.size : Int) ≤ 1048576) (w : World) : Calls Tryz.prog 4 #[.string s] w fun e w' => ReR s w e w' := by
  have HT0 := hid (there_below (there_new w #[.int .i64 0, .int .i64 0, .slice none 0 0, .slice none 0 0, .slice none 0 0] 26) (below_alloc' (w.alloc (.cells #[.int .i64 0, .int .i64 0, .slice none 0 0, .slice none 0 0, .slice none 0 0] 26)) (.cells #[.int .i64 0, .int .i64 0, .slice none 0 0, .slice none 0 0, .slice none 0 0] 26)) (by simp))
  have HB0 : Hid (Below w.heap.size w ((w.alloc (.cells #[.int .i64 0, .int .i64 0, .slice none 0 0, .slice none 0 0, .slice none 0 0] 26)).alloc (.cells #[.int .i64 0, .int .i64 0, .slice none 0 0, .slice none 0 0, .slice none 0 0] 26))) := hid (((Below.refl _ _).alloc (Nat.le_refl _) _).alloc (by simp) _)
  by_cases hbig : (200000 : Int) < (s.size : Int)
  · have HN : Hid (∀ B, (s.size : Int) ≤ 200000 → ¬ TolB s B) := hid fun B h => by omega
    go_enter Tryz.func4, Tryz.ntmps4
    go_wp2_with ((with_reducible show wpList _ _ _ (⟨none, Op.store 26 (Operand.tmp 2) _, _, _, _, _⟩ :: _) _ _); go_must (refine wpList_store_new rfl 26 _ _ rfl w.heap.size [.int .i64 0, .int .i64 0, .slice none 0 0, .slice none 0 0, .slice none 0 0] (by simp [go_sem]) rfl HT0.out sz26 (by simp [Value.oneCell']) ?_; intro W2 hr2 hf2 hz2; have HR2 := hid hr2; have HF2 := hid hf2; clear hr2 hf2 hz2))
    refine bodyPost_ret (v := .tuple #[.agg #[.int .i64 0, .int .i64 0, .slice none 0 0, .slice none 0 0, .slice none 0 0], .bool false]) (results_cell_tmp (p := 2) (u := 3) rfl _ _ w.heap.size [.int .i64 0, .int .i64 0, .slice none 0 0, .slice none 0 0, .slice none 0 0] _ rfl HR2.out Tryz.underlying26 rfl sz26) rfl ?_
    exact ReR.no (HB0.out.trans (HF2.out.below (Nat.le_refl _) (by simp; omega))) HN.out
  · have hs2 : (s.size : Int) ≤ 200000 := by omega
    have HC := hid (cut_any s 10 hs ((w.alloc (.cells #[.int .i64 0, .int .i64 0, .slice none 0 0, .slice none 0 0, .slice none 0 0] 26)).alloc (.cells #[.int .i64 0, .int .i64 0, .slice none 0 0, .slice none 0 0, .slice none 0 0] 26)))
    have e2 : ((w.alloc (.cells #[.int .i64 0, .int .i64 0, .slice none 0 0, .slice none 0 0, .slice none 0 0] 26)).alloc (.cells #[.int .i64 0, .int .i64 0, .slice none 0 0, .slice none 0 0, .slice none 0 0] 26)).heap.size = w.heap.size + 2 := by simp
    go_enter Tryz.func4, Tryz.ntmps4
    go_wp2_with (go_at_call 9; go_must (refine HC.out.mono ?_; rintro e w1 ⟨v, xs, rfl, hown, hxs, hxz, hb1⟩; have HS0 := hid (spS_start w w1 hb1); have hx1 : 1 ≤ xs.length := (by rw [hxs]; exact cutG_pos _ _ _ _); have HXS := hid hxs; have hxl := hxz.1; have HXZ := hid hxz.2; obtain ⟨gl, capl, rfl, hgl0⟩ := own_some hown hx1; have hgl : w.heap.size + 1 < gl := (by omega); have hglz := (hown.lt gl rfl).2; have HLC : Hid (LiC w1 gl xs) := hid (fun j L hL => (by have hj : j < xs.length := (List.getElem?_eq_some_iff.1 hL).1; rw [hown.cellAt j (by omega)]; simp only [sC, List.getElem?_map, hL]; rfl)); clear hown hxs hxz hb1 HC))
    have HL0 := hid (LnS.start s)
    have FT0 := hid FitB.start
    go_loopw [6] (fun i wr => ∃ (k : Nat) (x : Bk) (v1 v2 v3 : Value), i = .int .i64 k ∧ k + 1 ≤ xs.length ∧ Hid (SpS w w1 wr x v1 v2 v3) ∧ Hid (LnS s x k) ∧ Hid (FitB x) ∧ x.on + x.hn + x.tn ≤ k) (fun i _ => xs.length - (intOf i).toNat)
    case atStart => exact ⟨0, bk0, _, _, _, rfl, hx1, hid HS0.out.1, HL0, FT0, by simp [bk0]⟩
    case round =>
      obtain ⟨k, x, v1, v2, v3, rfl, hk, SS, HL, HFT, hct⟩ := hrel
      clear HL0 FT0
      by_cases hkx : k + 1 < xs.length
      · obtain ⟨L, hL⟩ : ∃ L, xs[k]? = some L := ⟨_, List.getElem?_eq_getElem (by omega)⟩
        have hLz : (L.size : Int) ≤ 200000 := by have := HXZ.out L (List.mem_of_getElem? hL); omega
        have cL : wr.cell? ⟨gl, k, none⟩ = some (.string L) := (HLC.out.of SS.out hglz hgl) k L hL
        have HLx := hid hL
        have HW := hid (wordsN_any 1 (by omega) (by omega) L (by omega) wr)
        have hrz : (rN L 1).size ≤ L.size := rN_size L 1
        obtain ⟨T, hT⟩ : ∃ T, T = wH (rN L 0) := ⟨_, rfl⟩
        obtain ⟨rs, hrs⟩ : ∃ rs, rs = rN L 1 := ⟨_, rfl⟩
        rw [← hrs] at HW hrz
        have HTT := hid hT
        have HRS := hid hrs
        have hz3 := fun j => Nat.le_trans (wH_size (rN rs j)) (rN_size rs j)
        have HZ3 := hid hz3
        have HRZ := hid (rN_size rs)
        clear hL hT hrs hz3
        have hzw := SS.out.sz
        have hzf := SS.out.fr.size
        go_wp2_with (first
          | (go_at_call 10; have _q := HW; go_must (refine HW.out.mono ?_; rintro e w2 ⟨g, cp, rfl, hc, hgz, hb2⟩; have S2 := hid (SS.out.below hb2); have cg : w2.cell? ⟨g, 0, none⟩ = some (.string T) := (by rw [HTT.out]; exact hc 0 (by omega)); have hzf2 := S2.out.fr.size; clear hc hb2 HW SS; rcases word5 T with ⟨hb, E1⟩ | ⟨hb, E1, E2⟩ | ⟨hb, E1, E2, E3⟩ | ⟨hb, E1, E2, E3, E4⟩ | ⟨hb, E1, E2, E3, E4⟩ <;> (have HT := hid hb; clear hb)))
          | (go_at_call 10; have _q : T = (⟨#[98, 111, 111, 107]⟩ : ByteArray) := HT.out; go_must (refine (wordsN_any 2 (by omega) (by omega) rs (by omega) _).mono ?_; rintro e w3 ⟨g3, cp3, rfl, hc3, hgz3, hb3⟩; have S3 := hid (S2.out.below hb3); have d0 : w3.cell? ⟨g3, 0, none⟩ = some (.string (wH (rN rs 0))) := hc3 0 (by omega); have HC3 := hid hc3; have hzf3 := S3.out.fr.size; have HNE : Hid (¬ w.heap.size + 1 = g3) := hid (fun e => by have h1 := hc3 0 (by omega); have h2 := (S2.out.below hb3).bk 0 _ rfl; rw [Nat.zero_add, e, h1] at h2; cases h2); clear hc3 hb3 S2))
          | (go_at_call 11; have _q := S3; go_must (refine (number_any (wH (rN rs 0)) (by have := HZ3.out 0; omega) _).mono ?_; rintro e w4 ⟨a, rfl, ha1, ha2, hb4⟩; have S4 := hid (S3.out.below hb4); have HNa : Hid (NuT (wH (rN rs 0)) a) := hid ⟨ha1, ha2⟩; have k0 : w4.cell? ⟨w.heap.size + 1, 0, none⟩ = some (.int .i64 x.now) := S4.out.bk 0 _ rfl; have g0 : w4.frozen? ⟨w.heap.size + 1, 0, none⟩ = false := (S4.out.bt 0 (by omega)).2; have d1 : (w4.setCell ⟨w.heap.size + 1, 0, none⟩ (.int .i64 a)).cell? ⟨g3, 1, none⟩ = some (.string (wH (rN rs 1))) := (by rw [World.cell?_setCell_other _ _ _ _ (fun e => HNE.out (congrArg Addr.block e)), hb4.cell (p := ⟨g3, 1, none⟩) hgz3]; exact HC3.out 1 (by omega)); clear ha1 ha2 hb4 S3))
          | (go_at_call 11; have _q := S4; go_must (refine (number_any (wH (rN rs 1)) (by have := HZ3.out 1; omega) _).mono ?_; rintro e w5 ⟨f, rfl, hf1, hf2, hb5⟩; have S5 := hid ((S4.out.nums0 a).below hb5); have HNf : Hid (NuT (wH (rN rs 1)) f) := hid ⟨hf1, hf2⟩; have k1 : w5.cell? ⟨w.heap.size + 1, 1, none⟩ = some (.int .i64 x.floor) := S5.out.bk 1 _ rfl; have g1 : w5.frozen? ⟨w.heap.size + 1, 1, none⟩ = false := (S5.out.bt 1 (by omega)).2; clear hf1 hf2 hb5 S4))
          | (go_at_call 10; have _q : T = (⟨#[99, 104, 97, 110, 103, 101]⟩ : ByteArray) := HT.out; go_must (refine (wordsN_any 1 (by omega) (by omega) rs (by omega) _).mono ?_; rintro e w3 ⟨g3, cp3, rfl, hc3, hgz3, hb3⟩; have SC3 := hid (S2.out.below hb3); have HC3 := hid hc3; clear hc3 hb3 S2))
          | (go_at_call 12; have _q := SC3; go_must (refine (readObj_any (rN rs 1) (by have := HRZ.out 1; omega) _).mono ?_; rintro e w4 ⟨ob, ad, cap, b', rfl, ho1, ho2, ho3, ho4⟩; have HO1 := hid ho1; have HO2 := hid ho2; have HB4 := hid ho3; have HO4 := hid ho4; have HNW := hid (fun cs => there_new w4 cs 38); clear ho1 ho2 ho3 ho4))
          | ((with_reducible show wpList _ _ _ (⟨none, Op.store 38 (Operand.tmp 13) _, _, _, _, _⟩ :: _) _ _); go_must (refine wpList_store_new rfl 38 _ _ rfl w4.heap.size [.string ob.kind, .string ob.name, .int .i64 ob.ver, .int .i64 ob.born, .string ob.text, .bool ob.ending, .slice ad ob.hn cap] (by simp [go_sem]) rfl (HNW.out _) sz38 (by simp [Value.oneCell']) ?_; intro W5 hr5 hf5 hz5; have HR5 := hid hr5; have HF5 := hid ((Fr.of_below (lo := w4.heap.size) (hi := w4.heap.size + 1) (below_alloc' w4 _)).trans hf5); have HZ5 := hid (show w4.heap.size + 1 ≤ W5.heap.size by rw [hz5]; simp); clear hr5 hf5 hz5))
          | (go_at_call 10; have _q : T = (⟨#[116, 105, 99, 107, 101, 116]⟩ : ByteArray) := HT.out; go_must (refine (wordsN_any 4 (by omega) (by omega) rs (by omega) _).mono ?_; rintro e w3 ⟨g3, cp3, rfl, hc3, hgz3, hb3⟩; have ST3 := hid (S2.out.below hb3); have HC3 := hid hc3; clear hc3 hb3 S2))
          | (go_at_call 13; have _q := ST3; go_must (refine (unquote_any (rN rs 4) (by have := HRZ.out 4; omega) _).mono ?_; rintro e w4 ⟨pr, pq, rfl, hp1, hp2, hb4⟩; have HP2 := hid hp2; have HPZ := hid hp1.1; have HB4 := hid hb4; clear hp1 hp2 hb4)))
        · have HRR := HRS.out
          have LB := LnS.book (a := a) (f := f) HL.out HXS.out hkx HLx.out (HTT.out.symm.trans HT.out) (by have := HNa.out; rw [HRR] at this; exact this) (by have := HNf.out; rw [HRR] at this; exact this)
          go_roundw
          case rel => exact ⟨k + 1, _, _, _, _, by go_num, by omega, hid (S5.out.nums1 f), hid (LB), hid (⟨HFT.out.os, HFT.out.hs, HFT.out.ts⟩), by simp only []; omega⟩
          case measure => simp [intOf]; omega
        · refine rdReg15 _ _ _ _ _ _ _ _ _ _ _ _ _ _ _ _ _ _ _ _ _ _ _ _ _ _ _ _ _ _ _ _ _ _ _ _ _ _ _ _ _ _ _ _ _ _ _ _ _ _ _ _ _ _ _ _ _ _ _ _ _ _ _ _ _ _ _ _ _ _ _ _ _ _ _ _ _ _ _ _ _ _ _ _ _ _ _ _ _ _ _ _ _ _ _ _ _ _ _ _ _ _ _ _ _ _ _ _ _ _ _ _ _ _ _ _ _ _ _ _ _ _ _ _ _ _ _ _ _ _ _ _ _ w w1 _ x v1 v2 v3 rs (by omega) S2.out (by omega) _ ?_
          intro t u3 o Y hS hO
          have LB := hid (LnS.obj (o := o) HL.out HXS.out hkx HLx.out (HTT.out.symm.trans HT.out) (by have := HRS.out; rw [this] at hO; exact hO))
          have SY := hid hS
          have FO := hid (HFT.out.addO hO.1.1)
          clear hS hO
          go_wp2
          go_roundw
          case rel => exact ⟨k + 1, _, _, _, _, by go_num, by omega, hid (SY.out), hid (LB.out), hid (FO.out), by simp only []; omega⟩
          case measure => simp [intOf]; omega
        · have hb4z := HB4.out.size
          have hz5 := HZ5.out
          have hb0 : Below w3.heap.size w3 W5 := HB4.out.trans (HF5.out.below (B := w3.heap.size) (by omega) (by omega))
          refine rdReg19 _ _ _ _ _ _ _ _ _ _ _ _ _ _ _ _ _ _ _ _ _ _ _ _ _ _ _ _ _ _ _ _ _ _ _ _ _ _ _ _ _ _ _ _ _ _ _ _ _ _ _ _ _ _ _ _ _ _ _ _ _ _ _ _ _ _ _ _ _ _ _ _ _ _ _ _ _ _ _ _ _ _ _ _ _ _ _ _ _ _ _ _ _ _ _ _ _ _ _ _ _ _ _ _ _ _ _ _ _ _ _ _ _ _ _ _ _ _ _ _ _ _ _ _ _ _ _ _ _ _ _ _ w w1 W5 x v1 v2 v3 w3 ob ad cap b' (wH (rN rs 0)) g3 cp3 w4.heap.size SC3.out hb0 (by omega) ((hb0.cell (p := ⟨g3, 0, none⟩) hgz3).trans (HC3.out 0 (by omega))) (by omega) HR5.out (HO1.out.frR HF5.out (fun h0 => ⟨(HO2.out h0).2, by have := (HO2.out h0).2; omega⟩)) (fun h0 => ⟨(HO2.out h0).1, by have := (HO2.out h0).2; omega⟩) (SC3.out.below hb0) (by omega) _ ?_
          intro t u3 o Y hS hO
          subst hO
          have LB := hid (LnS.chg (ob := ob) HL.out HXS.out hkx HLx.out (HTT.out.symm.trans HT.out) (by have := HO4.out; rw [HRS.out] at this; exact this))
          have SY := hid hS
          have FO := hid (HFT.out.addC (o := ⟨ob.ver, (wH (rN rs 0)).toList == [103, 111, 110, 101], ob⟩) HO4.out.1.1)
          clear hS
          go_wp2
          go_roundw
          case rel => exact ⟨k + 1, _, _, _, _, by go_num, by omega, SY, hid (by have h := LB.out; have e := HRS.out; subst e; exact h), FO, by simp only []; omega⟩
          case measure => simp [intOf]; omega
        · have hb4z := HB4.out.size
          have hz1 := HZ3.out 1
          have hz2 := HZ3.out 2
          have hz3 := HZ3.out 3
          refine rdReg23 _ _ _ _ _ _ _ _ _ _ _ _ _ _ _ _ _ _ _ _ _ _ _ _ _ _ _ _ _ _ _ _ _ _ _ _ _ _ _ _ _ _ _ _ _ _ _ _ _ _ _ _ _ _ _ _ _ _ _ _ _ _ _ _ _ _ _ _ _ _ _ _ _ _ _ _ _ _ _ _ _ _ _ _ _ _ _ _ _ _ _ _ _ _ _ _ _ _ _ _ _ _ _ _ _ _ _ _ _ _ _ _ _ _ _ _ _ _ _ _ _ _ _ _ _ _ _ _ _ _ _ _ w w1 w4 x v1 v2 v3 g3 cp3 (wH (rN rs 0)) (wH (rN rs 1)) (wH (rN rs 2)) (wH (rN rs 3)) pr (by omega) ((HB4.out.cell (p := ⟨g3, 0, none⟩) hgz3).trans (HC3.out 0 (by omega))) ((HB4.out.cell (p := ⟨g3, 1, none⟩) hgz3).trans (HC3.out 1 (by omega))) ((HB4.out.cell (p := ⟨g3, 2, none⟩) hgz3).trans (HC3.out 2 (by omega))) ((HB4.out.cell (p := ⟨g3, 3, none⟩) hgz3).trans (HC3.out 3 (by omega))) (by omega) (by omega) (by omega) (ST3.out.below HB4.out) (by omega) _ ?_
          intro t u3 o Y hS hO
          have LB := hid (LnS.tic (o := o) (pr := pr) HL.out HXS.out hkx HLx.out (HTT.out.symm.trans HT.out) (fun te q2 e => (HP2.out te q2 (by have := HRS.out; rw [this]; exact e)).1) (by have := HRS.out; rw [this] at hO; exact hO))
          have SY := hid hS
          have FO : Hid (FitB { x with tn := x.tn + 1, ts := updF x.ts x.tn o }) := hid (HFT.out.addT ⟨by rw [hO.1.1]; have := HZ3.out 0; omega, by rw [hO.1.2]; have := HPZ.out; have := HRZ.out 4; omega⟩)
          clear hS hO
          go_wp2
          go_roundw
          case rel => exact ⟨k + 1, _, _, _, _, by go_num, by omega, hid (SY.out), hid (LB.out), hid (FO.out), by simp only []; omega⟩
          case measure => simp [intOf]; omega
        · have h4 := HT.out
          rw [HTT.out] at h4
          have LB := LnS.none (x := x) (s := s) HXS.out hkx HLx.out h4.1 h4.2.1 h4.2.2.1 h4.2.2.2
          go_roundw
          case rel => exact ⟨k + 1, _, _, _, _, by go_num, by omega, hid (S2.out), hid (LB), hid (HFT.out), by omega⟩
          case measure => simp [intOf]; omega
      · have HLD := hid (fun B hB => LnS.done HL.out HXS.out hkx (B := B) hB)
        obtain ⟨y, p, c1, c2, c3, hr, hat, hlo, hfit, htl, htb, hte⟩ := SS.out.out hs2 HFT.out (by omega) HLD.out
        have HRY := hid hr
        have HAT := hid hat
        have HLO := hid hlo
        have HFI := hid hfit
        have HTL := hid htl
        have HTB := hid htb
        have HTE := hid hte
        have k0 : wr.cell? ⟨w.heap.size + 1, 0, none⟩ = _ := hr 0 _ rfl
        have k1 : wr.cell? ⟨w.heap.size + 1, 1, none⟩ = _ := hr 1 _ rfl
        have k2 : wr.cell? ⟨w.heap.size + 1, 2, none⟩ = _ := hr 2 _ rfl
        have k3 : wr.cell? ⟨w.heap.size + 1, 3, none⟩ = _ := hr 3 _ rfl
        have k4 : wr.cell? ⟨w.heap.size + 1, 4, none⟩ = _ := hr 4 _ rfl
        have hzw := SS.out.sz
        have hzf := SS.out.fr.size
        have HTW := hid (there_ne HS0.out.2.1 SS.out.fr (by omega) (by omega))
        have HBW : Hid (Below w.heap.size w wr) := hid (HS0.out.2.2.trans (SS.out.fr.below (B := w.heap.size) (by omega) (by omega)))
        clear hr hat hlo hfit htl htb hte SS HL HFT
        by_cases hs0 : s = ⟨#[]⟩
        · have HN : Hid (∀ B, (s.size : Int) ≤ 200000 → ¬ TolB s B) := hid fun B _ hB => tol_ne hB hs0
          have hem : s.toList.isEmpty = true := by rw [hs0]; simp
          clear hs0
          go_wp2_with ((with_reducible show wpList _ _ _ (⟨none, Op.store 26 (Operand.tmp 2) _, _, _, _, _⟩ :: _) _ _); go_must (refine wpList_store_new rfl 26 _ _ rfl w.heap.size [.int .i64 0, .int .i64 0, .slice none 0 0, .slice none 0 0, .slice none 0 0] (by simp [go_sem]) rfl HTW.out sz26 (by simp [Value.oneCell']) ?_; intro W5 hr5 hf5 hz5; have HR5 := hid hr5; have HF5 := hid hf5; clear hr5 hf5 hz5))
          refine bodyPost_ret (v := .tuple #[.agg #[.int .i64 0, .int .i64 0, .slice none 0 0, .slice none 0 0, .slice none 0 0], .bool false]) (results_cell_tmp (p := 2) (u := 3) rfl _ _ w.heap.size [.int .i64 0, .int .i64 0, .slice none 0 0, .slice none 0 0, .slice none 0 0] _ rfl HR5.out Tryz.underlying26 rfl sz26) rfl ?_
          exact ReR.no (HBW.out.trans (HF5.out.below (Nat.le_refl _) (by omega))) HN.out
        · have hem := toList_nonempty hs0
          have HS1 := hid hs0
          clear hs0
          go_wp2_with (first
            | (go_at_call 14; go_must (refine (specForm_any y p.a1 p.a2 p.a3 c1 c2 c3 wr w.heap.size wr.heap.size (Nat.le_refl _) HFI.out (HAT.out.isIn (fun q hq => by have := HLO.out q hq; omega))).mono ?_; rintro e w4 ⟨rfl, hb4⟩; have HF4 := hid hb4; have HTH4 := hid (there_below HTW.out hb4 (by omega)); have HR4 := hid (range_below HRY.out hb4 (by omega)); clear hb4; obtain ⟨F, hF⟩ : ∃ F, F = formS y := ⟨_, rfl⟩; rw [← hF]; have HFF := hid hF; clear hF; rcases eqOr F s with ⟨hFs, E⟩ | ⟨hFs, E⟩ <;> (have HFS := hid hFs; clear hFs)))
            | ((with_reducible show wpList _ _ _ (⟨some 134, Op.load 26 (Operand.tmp 4), _, _, _, _⟩ :: _) _ _); go_must (refine wpList_load_mid rfl 26 _ rfl (w.heap.size + 1) 0 (by simp [go_sem]) [.int .i64 y.now, .int .i64 y.floor, .slice p.a1 y.on c1, .slice p.a2 y.hn c2, .slice p.a3 y.tn c3] _ HR4.out Tryz.underlying26 rfl sz26 ?_))
            | ((with_reducible show wpList _ _ _ (⟨none, Op.store 26 (Operand.tmp 2) _, _, _, _, _⟩ :: _) _ _); go_must (refine wpList_store_new rfl 26 _ _ rfl w.heap.size _ (by simp [go_sem]) rfl HTH4.out sz26 (by simp [Value.oneCell']) ?_; intro W5 hr5 hf5 hz5; have HR5 := hid hr5; have HF5 := hid hf5; clear hr5 hf5 hz5)))
          · have hz4 := HF4.out.size
            refine bodyPost_ret (v := .tuple #[.agg #[.int .i64 y.now, .int .i64 y.floor, .slice p.a1 y.on c1, .slice p.a2 y.hn c2, .slice p.a3 y.tn c3], .bool true]) (results_cell_tmp (p := 2) (u := 3) rfl _ _ w.heap.size [.int .i64 y.now, .int .i64 y.floor, .slice p.a1 y.on c1, .slice p.a2 y.hn c2, .slice p.a3 y.tn c3] _ rfl HR5.out Tryz.underlying26 rfl sz26) rfl ?_
            exact ⟨HBW.out.trans ((HF4.out.mono (by omega)).trans (HF5.out.below (Nat.le_refl _) (by omega))), Or.inl ⟨y, p, c1, c2, c3, HTB.out HS1.out (HFF.out.symm.trans HFS.out), hs2, rfl, (HAT.out.grow HF4.out).fr (FrP.of_fr (P := fun q => q = w.heap.size) HF5.out (fun k a b => by omega)) (fun k hk e => by have := HLO.out k hk; omega), fun q hq => by have := HLO.out q hq; omega, HFI.out, HTE.out⟩⟩
          · have hz4 := HF4.out.size
            refine bodyPost_ret (v := .tuple #[.agg #[.int .i64 0, .int .i64 0, .slice none 0 0, .slice none 0 0, .slice none 0 0], .bool false]) (results_cell_tmp (p := 2) (u := 3) rfl _ _ w.heap.size [.int .i64 0, .int .i64 0, .slice none 0 0, .slice none 0 0, .slice none 0 0] _ rfl HR5.out Tryz.underlying26 rfl sz26) rfl ?_
            exact ReR.no (HBW.out.trans ((HF4.out.mono (by omega)).trans (HF5.out.below (Nat.le_refl _) (by omega)))) (fun B _ hB => HFS.out (HFF.out.trans (HTL.out ⟨B, hB⟩)))
end Go.Proofs.YtkfbclopkgnacaaGreatDoor
