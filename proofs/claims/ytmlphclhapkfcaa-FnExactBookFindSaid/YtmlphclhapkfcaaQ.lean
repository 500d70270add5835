import Derived.Test.YtmlphclhapkfcaaP
import Derived.Laws.CopyOwn
namespace Go.Proofs.Ytmlphclhapkfcaa
open Go.RowKit
theorem row_of_owns {w : World} {base e n g cap : Nat} {xs : List Value} (h : w.ownsRow base e 1 (.slice (some ⟨g, 0, none⟩) n cap) n xs) : ∃ cur, w.heap[g]? = some (.cells cur e (0, 0)) ∧ n ≤ cur.size := by
  rcases h.2 with ⟨h', _⟩ | ⟨g', cap', cur, h', _, hg, hnc, _, hcs, _⟩
  · simp at h'
  · simp only [Value.slice.injEq, Option.some.injEq, Addr.mk.injEq, and_true, true_and] at h'
    obtain ⟨rfl, rfl⟩ := h'
    exact ⟨cur, hg, by omega⟩
theorem strsOwn_copied {w : World} {g n e : Nat} {s : Nat → ByteArray} {cur : Array Value} (hg : w.heap[g]? = some (.cells cur e (0, 0))) (lo : Nat) (hlo : lo ≤ g) :
    StrsOwn (w.setRow g (cur.toList.take 0 ++ (strCells n s ++ cur.toList.drop (0 + (strCells n s).length))).toArray) lo (w.setRow g (cur.toList.take 0 ++ (strCells n s ++ cur.toList.drop (0 + (strCells n s).length))).toArray).heap.size (some ⟨g, 0, none⟩) n s := by
  have hg' := setRow_heap w g cur (cur.toList.take 0 ++ (strCells n s ++ cur.toList.drop (0 + (strCells n s).length))).toArray e (0, 0) hg
  intro i hi
  refine ⟨g, 0, rfl, hlo, (Array.getElem?_eq_some_iff.1 hg').1, ?_, ?_⟩
  · rw [cell_of_row _ _ _ _ _ _ hg']
    have h2 := strCells_at (s := s) hi
    rw [List.getElem?_eq_getElem (by rw [strCells_len]; exact hi)] at h2
    simp [List.getElem?_append, strCells_len, hi]
    simpa using h2
  · exact frozen_of_row _ _ _ _ _ hg'
theorem srcStrs {w w1 : World} {lo hi b off n : Nat} {s : Nat → ByteArray} (hc : StrsIn w lo hi (some ⟨b, off, none⟩) n s) (hb : Below w.heap.size w w1) (hhi : hi ≤ w.heap.size) : ∀ j v, (strCells n s)[j]? = some v → w1.cell? ((⟨b, off, none⟩ : Addr).add j) = some v := fun j u hj => by
  obtain ⟨h1, rfl⟩ := strCells_get hj
  obtain ⟨b', off', e, _, e3, e4⟩ := hc j h1
  cases e
  have ea : ((⟨b, off, none⟩ : Addr).add j) = ⟨b, off + j, none⟩ := by simp [Addr.add]
  rw [ea, hb.cell (p := ⟨b, off + j, none⟩) (by show b < _; omega)]
  exact e4
set_option maxHeartbeats 400000 in
theorem copyStrs_any (n : Nat) (s : Nat → ByteArray) (ad : Option Addr) (cap : Nat) (w : World) (lo hi : Nat) (hhi : hi ≤ w.heap.size) (hl : (n : Int) ≤ 8796093022208) (hc : StrsIn w lo hi ad n s) :
    Calls Try.prog 38 #[.slice ad n cap] w fun e w' => ∃ ad' cap', e = .returned (.slice ad' n cap') ∧ StrsOwn w' w.heap.size w'.heap.size ad' n s ∧ Below w.heap.size w w' := by
  rcases Nat.eq_zero_or_pos n with h0 | hpos
  · subst h0
    go_enter Try.func38, Try.ntmps38
    go_wp2
    go_ret
    exact ⟨_, _, rfl, fun i hi' => absurd hi' (Nat.not_lt_zero _), Below.refl _ _⟩
  · obtain ⟨i0, hi0, hz0, hz1, hz2⟩ := info_parts Try.info9
    obtain ⟨b, off, rfl, hlo, hbh, _⟩ := hc 0 hpos
    have hne : ((n : Int) == 0) = false := by simp; omega
    have hsz : (Try.prog.info? 9).map (·.size) = some 1 := by rw [hi0]; simp [hz1]
    go_enter Try.func38, Try.ntmps38
    go_wp2_with (first
      | (at_make; refine wpList_make_full _ rfl _ _ 28 rfl w.heap.size 9 i0 (.string ByteArray.empty) 1 Try.underlying28 hi0 hz0 hz1 .i64 .i64 _ _ n rfl rfl (by omega) (by omega) (by rw [hz2]; omega) (by unfold maxLen; omega) (by omega) ?_; intro w1 hown1 hgrow1; obtain ⟨cur, hg, hcs⟩ := row_of_owns hown1; have hb1 : Below w.heap.size w w1 := (Below.refl _ _).grown hgrow1 (Nat.le_refl _) (by simp); have hsrc := srcStrs hc hb1 hhi; clear hown1 hgrow1; have hrun := run_copy_row (P := Try.prog) w1 28 28 3 9 w.heap.size 0 n n ⟨b, off, none⟩ n cap cur 9 (strCells n s) Try.underlying28 hsz hg (by rw [strCells_len]; simp) hsrc (by rw [strCells_len]; omega) (strCells_one _ _); have R1 := hid (strsOwn_copied (n := n) (s := s) hg _ (Nat.le_refl _)); have R2 := hid (below_setRow hb1 (Nat.le_refl _) (cur.toList.take 0 ++ (strCells n s ++ cur.toList.drop (0 + (strCells n s).length))).toArray); clear hsrc hg hcs hc))
    go_ret
    exact ⟨_, _, rfl, by simpa using R1.out, by simpa using R2.out⟩
set_option maxHeartbeats 400000 in
theorem copyOb_any (x : Ob) (ad : Option Addr) (cap : Nat) (w : World) (lo hi : Nat) (hhi : hi ≤ w.heap.size) (hl : (x.hn : Int) ≤ 8796093022208) (hc : StrsIn w lo hi ad x.hn x.hs) :
    Calls Try.prog 21 #[.agg #[.string x.kind, .string x.name, .int .i64 x.ver, .int .i64 x.born, .string x.text, .bool x.ending, .slice ad x.hn cap]] w fun e w' => ∃ ad' cap', e = .returned (.agg #[.string x.kind, .string x.name, .int .i64 x.ver, .int .i64 x.born, .string x.text, .bool x.ending, .slice ad' x.hn cap']) ∧ StrsOwn w' w.heap.size w'.heap.size ad' x.hn x.hs ∧ Below w.heap.size w w' := by
  go_enter Try.func21, Try.ntmps21
  go_wp2_with fail
  refine (copyStrs_any x.hn x.hs ad cap _ lo hi (by simp; omega) hl (hc.below (B := w.heap.size) (((Below.refl _ _).alloc (Nat.le_refl _) _).alloc (by simp) _) hhi)).mono ?_
  rintro e w1 ⟨ad', cap', rfl, hown, hb1⟩
  have hbW : Below w.heap.size w w1 := (((Below.refl _ _).alloc (Nat.le_refl _) _).alloc (by simp) _).trans (hb1.mono (by simp; omega))
  have hz : w.heap.size + 1 < w1.heap.size := by have := hb1.size; simp at this; omega
  obtain ⟨A0, A1, F0, F1⟩ := two_cell hb1
  have p0 := A0 0
  have p1 := A0 1
  have p2 := A0 2
  have p3 := A0 3
  have p4 := A0 4
  have p5 := A0 5
  have p6 := A0 6
  have q0 := A1 0
  have q1 := A1 1
  have q2 := A1 2
  have q3 := A1 3
  have q4 := A1 4
  have q5 := A1 5
  have q6 := A1 6
  simp only [List.getElem?_toArray, List.getElem?_cons_succ, List.getElem?_cons_zero] at p0 p1 p2 p3 p4 p5 p6 q0 q1 q2 q3 q4 q5 q6
  simp only [World.size_alloc] at hown
  have HO := hid hown
  clear A0 A1 hb1 hc hown
  go_wp2
  refine bodyPost_ret (v := .agg #[.string x.kind, .string x.name, .int .i64 x.ver, .int .i64 x.born, .string x.text, .bool x.ending, .slice ad' x.hn cap']) (by simp [results, Try.results21, go_sem, q0, q1, q2, q3, q4, q5, q6]) rfl ⟨ad', cap', rfl, ?_, ?_⟩
  · simp only [World.size_setCell]
    refine (StrsOwn.fr HO.out (lo2 := w.heap.size) (hi2 := w.heap.size + 2) ?_ (Nat.le_refl _) (by omega)).mono (by omega) (Nat.le_refl _)
    iterate 8 refine Fr.setCell ?_ (by simp; try omega) (by simp; try omega) _
    exact Fr.refl _ _ _
  · refine hbW.trans (Fr.below (lo := w.heap.size) (hi := w.heap.size + 2) ?_ (Nat.le_refl _) hbW.size)
    iterate 8 refine Fr.setCell ?_ (by simp; try omega) (by simp; try omega) _
    exact Fr.refl _ _ _
set_option maxHeartbeats 400000 in
theorem keyOf_any (x : Ob) (ad : Option Addr) (cap : Nat) (w : World) :
    Calls Try.prog 37 #[.agg #[.string x.kind, .string x.name, .int .i64 x.ver, .int .i64 x.born, .string x.text, .bool x.ending, .slice ad x.hn cap]] w fun e w' => e = .returned (.agg #[.string x.kind, .string x.name]) ∧ Below w.heap.size w w' := by
  go_enter Try.func37, Try.ntmps37
  go_wp2
  refine bodyPost_ret (v := .agg #[.string x.kind, .string x.name]) (by simp [results, Try.results37, go_sem]) rfl ⟨rfl, ?_⟩
  exact ((below_alloc _ _).alloc (by simp) _)
end Go.Proofs.Ytmlphclhapkfcaa
