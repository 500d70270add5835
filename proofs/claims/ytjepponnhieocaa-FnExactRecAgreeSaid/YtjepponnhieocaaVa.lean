import Derived.Test.YtjepponnhieocaaV
namespace Go.Proofs.Ytjepponnhieocaa
open Go.RowKit
def oneB (r : Rc) (i : Nat) : Bool := (!((r.hs i).from_ != r.num)) && msB (r.hs i) r.of
def heldB (r : Rc) : Bool := decide (r.hn ≤ 400) && allTo (oneB r) r.hn
theorem heldB_no {r : Rc} {k : Nat} (hk : k < r.hn) (h : oneB r k = false) : heldB r = false := by unfold heldB; rw [allTo_no hk h]; simp
theorem heldB_yes {r : Rc} (hn : r.hn ≤ 400) (h : ∀ i, i < r.hn → oneB r i = true) : heldB r = true := by unfold heldB; rw [allTo_iff.2 h]; simp [hn]
set_option maxRecDepth 100000 in
set_option maxHeartbeats 4000000 in
theorem heldFits_any (r : Rc) (A : RcA) (w : World) (lo hi : Nat) (hhi : hi ≤ w.heap.size) (hf : RcFit r) (hc : MssIn w lo hi A.ha r.hn r.hs) :
    Calls Try.prog 110 #[rcV r A] w fun e w' => e = .returned (.bool (heldB r)) ∧ Below w.heap.size w w' := by
  have f1 := hf.hn
  have HF := hid hf.hs
  have HC := hid hc
  clear hf hc
  have mark : Nat := 0
  by_cases hn : r.hn ≤ 400
  · go_enter Try.func110, Try.ntmps110
    go_wp2_with (first | ((with_reducible show wpList _ _ _ (⟨some 5, _, _, _, _, _⟩ :: _) _ _); clear mark; have hB0 := below_alloc w (.cells (rcC r A) 58); have H0 := holds_new w (rcC r A) 58; have hz0 : w.heap.size < (w.alloc (.cells (rcC r A) 58)).heap.size := (by simp); generalize w.alloc (.cells (rcC r A) 58) = W at *; obtain ⟨p0, p1, p2, p3, p4, p5, p6, p7, p8, p9, p10, p11, p12, p13, p14, p15, p16, p17⟩ := holds18 H0))
    go_loopw [12] (fun i wr => ∃ k : Nat, k ≤ r.hn ∧ i = .int .i64 k ∧ Below W.heap.size W wr ∧ Hid (∀ j, j < k → oneB r j = true)) (fun i _ => r.hn - (intOf i).toNat)
    case atStart => exact ⟨0, Nat.zero_le _, rfl, Below.refl _ _, fun j hj => absurd hj (Nat.not_lt_zero _)⟩
    case round =>
      obtain ⟨k, hk, rfl, hb, HA⟩ := hrel
      have HB := hid (hB0.trans (hb.mono hB0.size))
      clear p0 p1 p2 p3 p4 p5 p6 p7 p8 p9 p10 p11 p12 p13 p14 p15 p16 p17
      by_cases hkn : k < r.hn
      · obtain ⟨b, off, ah, ch, e, hlo, hbh, hcx, hs⟩ := HC.out k hkn
        have hs1 := hs.below HB.out hhi
        obtain ⟨d0, d1, d2, d3, d4, d5, d6, d7⟩ := hcx.below HB.out (by omega)
        obtain ⟨p0, p1, p2, p3, p4, p5, p6, p7, p8, p9, p10, p11, p12, p13, p14, p15, p16, p17⟩ := holds18 (H0.below hb hz0)
        have hfk := HF.out k hkn
        rw [e] at *
        have hbw : b < wr.heap.size := by have := HB.out.size; omega
        have hww : w.heap.size < wr.heap.size := by have := hb.size; omega
        have hw1 : hi ≤ wr.heap.size := Nat.le_trans hhi HB.out.size
        clear hcx hs p2 p3 p4 p5 p6 p7 p8 p9 p10 p11 p12 p13 p14 p15 p16 p17 H0 e
        cases h1 : ((r.hs k).from_ != r.num) with
        | true =>
          have HE := hid (heldB_no hkn (by rw [oneB, h1]; rfl))
          go_wp2
          go_ret
          exact ⟨ret_bool HE.out.symm, HB.out.alloc HB.out.size _⟩
        | false =>
          cases h2 : msB (r.hs k) r.of with
          | false =>
            have HE := hid (heldB_no hkn (by rw [oneB, h1, h2]; rfl))
            go_wp2_with (go_at_call 96; refine (implMessage_any (r.hs k) r.of ah ch _ lo hi (by simp; omega) hfk (hs1.below (below_alloc _ _) hw1)).mono ?_; rintro e w1 ⟨rfl, hb1⟩; rw [h2])
            go_ret
            exact ⟨ret_bool HE.out.symm, (HB.out.alloc HB.out.size _).trans (hb1.mono (by simp; have := HB.out.size; omega))⟩
          | true =>
            have HN := hid (show oneB r k = true by rw [oneB, h1, h2]; rfl)
            go_wp2_with (go_at_call 96; refine (implMessage_any (r.hs k) r.of ah ch _ lo hi (by simp; omega) hfk (hs1.below (below_alloc _ _) hw1)).mono ?_; rintro e w1 ⟨rfl, hb1⟩; rw [h2])
            go_roundw
            case rel => exact ⟨k + 1, by omega, by go_num, (hb.alloc hb.size _).trans (hb1.mono (by simp; have := hb.size; omega)), fun j hj => by
              by_cases e : j = k
              · rw [e]; exact HN.out
              · exact HA.out j (by omega)⟩
            case measure => simp [intOf]; omega
      · have HE := hid (heldB_yes hn (fun i hi => HA.out i (by omega)))
        clear H0
        go_wp2
        go_ret
        exact ⟨ret_bool HE.out.symm, HB.out⟩
  · have HE := hid (show heldB r = false by simp [heldB, hn])
    go_enter Try.func110, Try.ntmps110
    go_wp2_with (first | ((with_reducible show wpList _ _ _ (⟨some 5, _, _, _, _, _⟩ :: _) _ _); clear mark; have hB0 := below_alloc w (.cells (rcC r A) 58); have H0 := holds_new w (rcC r A) 58; have hz0 : w.heap.size < (w.alloc (.cells (rcC r A) 58)).heap.size := (by simp); generalize w.alloc (.cells (rcC r A) 58) = W at *; obtain ⟨p0, p1, p2, p3, p4, p5, p6, p7, p8, p9, p10, p11, p12, p13, p14, p15, p16, p17⟩ := holds18 H0))
    go_ret
    exact ⟨ret_bool HE.out.symm, hB0⟩
set_option maxRecDepth 100000 in
set_option maxHeartbeats 4000000 in
theorem role_any (r : Rc) (A : RcA) (w : World) : Calls Try.prog 115 #[rcV r A] w fun e w' => e = .returned (if r.ld then .iface 156 (.agg #[]) else if r.tr then .iface 157 (.agg #[]) else .iface 158 (.agg #[])) ∧ Below w.heap.size w w' := by
  cases h1 : r.ld
  · cases h2 : r.tr
    · go_enter Try.func115, Try.ntmps115
      go_wp2
      go_ret
      exact ⟨by simp [*], below_alloc _ _⟩
    · go_enter Try.func115, Try.ntmps115
      go_wp2
      go_ret
      exact ⟨by simp [*], below_alloc _ _⟩
  · go_enter Try.func115, Try.ntmps115
    go_wp2
    go_ret
    exact ⟨by simp [*], below_alloc _ _⟩
end Go.Proofs.Ytjepponnhieocaa
