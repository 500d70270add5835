import Derived.Test.YtipdnhgdaiimlaaRb
namespace Go.Proofs.Ytipdnhgdaiimlaa
open Go.RowKit
def slC (x : Nat → Sl) (j : Nat) : Value := if j % 2 = 0 then .int .i64 (x (j / 2)).bal else .string (x (j / 2)).text
theorem slC_at (x : Nat → Sl) (i : Nat) : atSl (slC x) i (x i) := by
  unfold atSl slC
  refine ⟨?_, ?_⟩
  · rw [if_pos (by omega), show i * 2 / 2 = i by omega]
  · rw [if_neg (by omega), show (i * 2 + 1) / 2 = i by omega]
theorem SlsIn.news {w : World} {lo hi b o n : Nat} {x : Nat → Sl} (h : SlsIn w lo hi (some ⟨b, o, none⟩) n x) : ∀ j u, (rowCells (n * 2) (slC x))[j]? = some u → w.cell? ((⟨b, o, none⟩ : Addr).add j) = some u := fun j u hu => by
  obtain ⟨h1, rfl⟩ := rowCells_get hu
  obtain ⟨b', off, e1, e2, e3, e4⟩ := h (j / 2) (by omega)
  obtain ⟨rfl, rfl⟩ : b = b' ∧ o = off := by simpa using e1
  rw [show ((⟨b, o, none⟩ : Addr).add j) = ⟨b, o + j, none⟩ by unfold Addr.add; split <;> simp_all]
  unfold slC
  split
  · rw [show o + j = o + j / 2 * 2 by omega]; exact e4.c0
  · rw [show o + j = o + j / 2 * 2 + 1 by omega]; exact e4.c1
set_option maxRecDepth 100000 in
set_option maxHeartbeats 8000000 in
theorem slots_own (n : Nat) (x : Nat → Sl) (ba oa cap : Nat) (w : World) (lo hi : Nat) (hhi : hi ≤ w.heap.size) (hl : (n : Int) ≤ 1048576) (hc : SlsIn w lo hi (some ⟨ba, oa, none⟩) n x) :
    Calls Try.prog 41 #[.slice (some ⟨ba, oa, none⟩) n cap] w fun e w' => ∃ v, e = .returned v ∧ w'.ownsRow w.heap.size 69 2 v n (rowCells (n * 2) (slC x)) ∧ Below w.heap.size w w' := by
  obtain ⟨i0, hi0, hz0, hz1, hz2⟩ := info_parts Try.info69
  have HC := hid (hc.below (below_alloc w (.cells #[] 69)) hhi)
  have OWN := hid (World.ownsRow_lit (base := w.heap.size) (e := 69) (size := 2) w #[] 0 (Nat.le_refl _) (Nat.zero_le _) rfl)
  clear hc
  go_enter Try.func41, Try.ntmps41
  go_wp2_with ((with_reducible show wpList _ _ _ (⟨some 5, _, _, _, _, _⟩ :: _) _ _); go_must (refine wpList_append_own_at _ rfl _ _ 27 rfl w.heap.size 69 i0 _ 2 24 Try.underlying27 hi0 hz0 hz1 hz2 rfl (by decide) _ 0 [] rfl OWN.out ⟨ba, oa, none⟩ n cap (rowCells (n * 2) (slC x)) rfl (rowCells_len _ _) HC.out.news (at_one (fun i _ => slC_at x i)) (by unfold maxLen; omega) (by omega) (by simp) ?_; intro v7 w7 hown7 hgrow7 hnil7 hat7; have HO7 := hid hown7; have HG7 := hid hgrow7; clear hown7 hgrow7 hnil7 hat7))
  go_ret
  refine ⟨_, rfl, by simpa using HO7.out, ?_⟩
  exact (below_alloc w (.cells #[] 69)).grown HG7.out (by simp) (fun k hk => by have e : some w.heap.size = some k := hk; simp at e; omega)
theorem own_len {w : World} {base e z n : Nat} {v : Value} {xs : List Value} (h : w.ownsRow base e z v n xs) : ∃ ad cap, v = .slice ad n cap := by
  rcases h.2 with ⟨rfl, rfl⟩ | ⟨g, cap, cur, rfl, _⟩
  · exact ⟨_, _, rfl⟩
  · exact ⟨_, _, rfl⟩
theorem own_addr {w : World} {base e z n cap : Nat} {ad : Option Addr} {xs : List Value} (h : w.ownsRow base e z (.slice ad n cap) n xs) (hn : 0 < n) : ∃ g, ad = some ⟨g, 0, none⟩ := by
  rcases h.2 with ⟨_, h0⟩ | ⟨g, cap', cur, e1, _⟩
  · omega
  · exact ⟨g, (Value.slice.injEq .. ▸ e1).1⟩
theorem slc_of {w : World} {lo hi b o n k : Nat} {x : Nat → Sl} (h : SlsIn w lo hi (some ⟨b, o, none⟩) n x) (hk : k < n) : SlCells w b (o + k * 2) (x k) := by
  obtain ⟨b', off, e1, e2, e3, e4⟩ := h k hk
  obtain ⟨rfl, rfl⟩ : b = b' ∧ o = off := by simpa using e1
  exact e4
theorem rowCells_set (m o : Nat) (c : Nat → Value) (v : Value) : (rowCells m c).set o v = rowCells m (setF c o v) := by
  apply List.ext_getElem
  · simp [rowCells]
  · intro j h1 h2
    rw [List.getElem_set]
    by_cases h : o = j
    · rw [if_pos h, rowCells_at]
      exact (if_pos h.symm).symm
    · rw [if_neg h, rowCells_at, rowCells_at]
      exact (if_neg (fun e => h e.symm)).symm
set_option maxRecDepth 100000 in
set_option maxHeartbeats 8000000 in
theorem specMerge_any (na nb : Nat) (x y : Nat → Sl) (ba oa ca bb ob cb : Nat) (w : World) (lo hi : Nat) (hhi : hi ≤ w.heap.size) (hla : (na : Int) ≤ 1048576) (hlb : (nb : Int) ≤ 1048576) (_hca : na ≤ ca) (hcb : nb ≤ cb) (hx : SlsIn w lo hi (some ⟨ba, oa, none⟩) na x) (hy : SlsIn w lo hi (some ⟨bb, ob, none⟩) nb y) :
    Calls Try.prog 14 #[.slice (some ⟨ba, oa, none⟩) na ca, .slice (some ⟨bb, ob, none⟩) nb cb] w fun e w' => ∃ ad' cap' g, e = .returned (.slice ad' (max na nb) cap') ∧ SlsAt w' ad' g (max na nb) (mgS na x nb y) ∧ w.heap.size ≤ g ∧ (max na nb ≠ 0 → g < w'.heap.size) ∧ Below w.heap.size w w' := by
  obtain ⟨i0, hi0, hz0, hz1, hz2⟩ := info_parts Try.info69
  have HX := hid hx
  have HY := hid hy
  clear hx hy
  go_enter Try.func14, Try.ntmps14
  go_wp2_with fail
  refine (slots_own na x ba oa ca w lo hi hhi hla HX.out).mono ?_
  rintro e w1 ⟨v1, rfl, ho1, hb1⟩
  have HO1 := hid ho1
  clear ho1
  have z1 := hb1.size
  have HX1 := hid (HX.out.below hb1 hhi)
  clear HX
  go_wp2_with fail
  go_loopw [5, 6] (fun v i wr => ∃ (k : Nat) (c : Nat → Value), i = .int .i64 k ∧ k ≤ nb ∧ Below w.heap.size w wr ∧ Hid (wr.ownsRow w.heap.size 69 2 v (max na k) (rowCells (max na k * 2) c)) ∧ Hid (∀ i, i < max na k → atSl c i (mgS na x k y i))) (fun _ i _ => nb - (intOf i).toNat)
  case atStart => exact ⟨0, slC x, rfl, Nat.zero_le _, hb1, hid (by simpa using HO1.out), hid (fun i hi => by
    have h : mgS na x 0 y i = x i := by unfold mgS; rw [if_pos (by omega), if_neg (Nat.not_lt_zero _)]
    rw [h]; exact slC_at x i)⟩
  case round =>
    obtain ⟨k, c, rfl, hk, b0, ho, hat⟩ := hrel
    have zr := b0.size
    obtain ⟨ad, cap, rfl⟩ := own_len ho.out
    by_cases hgo : k < nb
    · have i1 : (k : Int) < nb := by omega
      have YC := slc_of (HY.out.below b0 hhi) hgo
      have y0 := YC.c0
      have y1 := YC.c1
      clear YC
      by_cases h1 : na ≤ k
      · have hm : max na k = k := by omega
        rw [hm] at ho hat ⊢
        have HOA := hid (ho.out.alloc (.cells #[.int .i64 (y k).bal, .string (y k).text] 69))
        have HAT := hid hat.out
        clear ho hat
        go_wp2_with ((with_reducible show wpList _ _ _ (⟨some 25, _, _, _, _, _⟩ :: _) _ _); go_must (refine wpList_append_own_at _ rfl _ _ 27 rfl w.heap.size 69 i0 _ 2 24 Try.underlying27 hi0 hz0 hz1 hz2 rfl (by decide) _ k (rowCells (k * 2) c) rfl HOA.out ⟨wr.heap.size, 0, none⟩ 1 1 [.int .i64 (y k).bal, .string (y k).text] rfl rfl (alloc_news wr [.int .i64 (y k).bal, .string (y k).text] 69) (fun u hu => by simp at hu; rcases hu with rfl | rfl <;> rfl) (by unfold maxLen; omega) (by omega) (by simp; omega) ?_; intro v7 w7 hown7 hgrow7 hnil7 hat7; have HO7 := hid hown7; have HG7 := hid hgrow7; clear hown7 hgrow7 hnil7 hat7))
        have hmk : max na (k + 1) = k + 1 := by omega
        refine ⟨⟨k + 1, appF c (k * 2) [.int .i64 (y k).bal, .string (y k).text], by go_num, hgo, ?_, hid ?_, hid ?_⟩, by show nb - ((k : Int) + 1).toNat < nb - (k : Int).toNat; omega⟩
        · exact (b0.trans (below_alloc wr _ |>.mono zr)).grown HG7.out (Nat.le_trans zr (below_alloc wr _).size) (fun q hq => (HOA.out.lt q hq).1)
        · rw [hmk, show (k + 1) * 2 = k * 2 + [Value.int .i64 (y k).bal, .string (y k).text].length from Nat.add_mul k 1 2, ← rowCells_append]
          exact HO7.out
        · rw [hmk]
          intro i hi'
          by_cases h : i = k
          · subst h
            rw [show mgS na x (i + 1) y i = y i by unfold mgS; rw [if_neg (by omega)]]
            exact ⟨appF_zero c (i * 2) _, appF_at c (i * 2) _ 1⟩
          · rw [mgS_ne h]
            obtain ⟨a0, a1⟩ := HAT.out i (by omega)
            exact ⟨(if_pos (by omega)).trans a0, (if_pos (by omega)).trans a1⟩
      · have hm : max na k = na := by omega
        rw [hm] at ho hat ⊢
        obtain ⟨g, rfl⟩ := own_addr ho.out (by omega)
        have i2 : (k : Int) < na := by omega
        have i3 : ¬ ((k : Int) = na) := by omega
        have RO := row_of_own ho.out
        obtain ⟨a0, a1⟩ := hat.out k (by omega)
        have hmg : mgS na x k y k = x k := by unfold mgS; rw [if_pos (by omega), if_neg (Nat.lt_irrefl _)]
        rw [hmg] at a0 a1
        have r0 := RO.cell (k * 2) (by omega)
        rw [a0] at r0
        have r1 := RO.cell (k * 2 + 1) (by omega)
        rw [a1] at r1
        have f0 := RO.free (k * 2)
        have f1 := RO.free (k * 2 + 1)
        have HO := hid ho.out
        have HAT := hid hat.out
        clear a0 a1 RO ho hat hmg
        by_cases h2 : (x k).bal < (y k).bal
        · go_wp2
          go_quiet (fail)
          go_wp2
          have hmk : max na (k + 1) = na := by omega
          have HD : (wr.drewN nq).ownsRow w.heap.size 69 2 (.slice (some ⟨g, 0, none⟩) na cap) na (rowCells (na * 2) c) := HO.out
          have bd : Below w.heap.size w (wr.drewN nq) := b0.trans ⟨rfl, rfl, rfl, Nat.le_refl _, fun _ _ => rfl⟩
          have hg := (HO.out.lt g rfl).1
          obtain ⟨s1, g1⟩ := HD.stored (k * 2) (.int .i64 (y k).bal)
          obtain ⟨s2, g2⟩ := s1.stored (k * 2 + 1) (.string (y k).text)
          rw [rowCells_set, rowCells_set] at s2
          refine ⟨⟨k + 1, setF (setF c (k * 2) (.int .i64 (y k).bal)) (k * 2 + 1) (.string (y k).text), by go_num, hgo, ?_, hid (by rw [hmk]; exact s2), hid ?_⟩, by show nb - ((k : Int) + 1).toNat < nb - (k : Int).toNat; omega⟩
          · exact (bd.grown g1 bd.size (fun q hq => by simp at hq; omega)).grown g2 (Nat.le_trans bd.size g1.size) (fun q hq => by simp at hq; omega)
          · rw [hmk]
            intro i hi'
            by_cases h : i = k
            · subst h
              rw [show mgS na x (i + 1) y i = y i by unfold mgS; rw [if_pos (by omega), if_pos (by omega), if_pos h2]]
              exact ⟨(if_neg (by omega)).trans (if_pos rfl), if_pos rfl⟩
            · rw [mgS_ne h]
              exact atSl_set (atSl_set (HAT.out i hi') h (by omega) (by omega) _) h (by omega) (by omega) _
        · go_wp2
          go_quiet (fail)
          go_wp2
          have hmk : max na (k + 1) = na := by omega
          refine ⟨⟨k + 1, c, by go_num, hgo, b0.trans ⟨rfl, rfl, rfl, Nat.le_refl _, fun _ _ => rfl⟩, hid (by rw [hmk]; exact HO.out), hid ?_⟩, by show nb - ((k : Int) + 1).toNat < nb - (k : Int).toNat; omega⟩
          rw [hmk]
          intro i hi'
          have e : mgS na x (k + 1) y i = mgS na x k y i := by
            by_cases h : i = k
            · subst h
              unfold mgS
              rw [if_pos (by omega), if_pos (by omega), if_neg (by omega), if_pos (by omega), if_neg (Nat.lt_irrefl _)]
            · exact mgS_ne h
          rw [e]
          exact HAT.out i hi'
    · have i1 : ¬ (k : Int) < nb := by omega
      obtain rfl : k = nb := by omega
      have HO := hid ho.out
      have HAT := hid hat.out
      clear ho hat
      go_wp2
      refine bodyPost_ret (v := .slice ad (max na k) cap) (by simp [results, Try.results14, go_sem]) rfl ?_
      obtain ⟨ad', cap', g, e1, e2, e3, e4, e5⟩ := own_sls HO.out HAT.out b0
      exact ⟨ad', ⟨cap', e1⟩, g, e2, e3, fun h => e4 (by omega), e5⟩
end Go.Proofs.Ytipdnhgdaiimlaa
