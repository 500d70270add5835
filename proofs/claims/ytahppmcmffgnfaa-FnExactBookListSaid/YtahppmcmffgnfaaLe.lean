import Derived.Test.YtahppmcmffgnfaaLd
namespace Go.Proofs.Ytahppmcmffgnfaa
open Go.RowKit
set_option maxRecDepth 100000 in
set_option maxHeartbeats 1000000 in
theorem specBookList_any (B : Bk) (a1 a2 a3 : Option Addr) (c1 c2 c3 : Nat) (ki pr : ByteArray) (w : World) (lo hi : Nat) (hhi : hi ≤ w.heap.size) (hfit : BkFit B) (hon : (B.on : Int) ≤ 1048576) (hpr : (pr.size : Int) ≤ 140737488355328) (hin : BkIn w lo hi B a1 a2 a3) :
    Calls Try.prog 5 #[.agg #[.int .i64 B.now, .int .i64 B.floor, .slice a1 B.on c1, .slice a2 B.hn c2, .slice a3 B.tn c3], .string ki, .string pr] w fun e w' => ∃ ad' cap' g A C hb, e = .returned (.tuple #[.slice ad' (resL B ki pr).length cap', .int .i64 (resN B)]) ∧ ObsAt w' ad' g (resL B ki pr).length (pick B.os (resL B ki pr)) A C hb ∧ (∀ q, blkH g (resL B ki pr).length (fun i => (pick B.os (resL B ki pr) i).hn) hb q → w.heap.size ≤ q) ∧ Below w.heap.size w w' := by
  cases hv : allTo (chk B) 7 with
  | false =>
    have HE1 := hid (show resL B ki pr = [] by simp [resL, hv])
    have HE2 := hid (show resN B = 0 by simp [resN, hv])
    go_enter Try.func5, Try.ntmps5
    go_wp2_with (go_at_call 16; go_must (refine (specValid_any B a1 a2 a3 c1 c2 c3 _ lo hi (by simp; omega) hfit (hin.below (below_alloc _ _) hhi)).mono ?_; rw [hv]; rintro e w1 ⟨rfl, hb1⟩))
    refine bodyPost_ret (v := .tuple #[.slice (some ⟨w1.heap.size, 0, none⟩) 0 0, .int .i64 0]) (by simp [results, Try.results5, go_sem]) rfl ?_
    rw [HE1.out, HE2.out]
    exact ⟨_, _, 0, fun _ => none, fun _ => 0, fun _ => 0, rfl, obsAt_nil _ _ _ _ _ _ _, fun q hq => (blk_nil hq).elim, ((below_alloc _ _).trans (hb1.mono (by simp))).alloc (by have := hb1.size; simp at this; omega) _⟩
  | true =>
    have HE1 := hid (show resL B ki pr = flt (fun i => lkB (B.os i) ki pr) B.on by simp [resL, hv])
    have HE2 := hid (show resN B = B.now by simp [resN, hv])
    go_enter Try.func5, Try.ntmps5
    go_wp2_with (go_at_call 16; go_must (refine (specValid_any B a1 a2 a3 c1 c2 c3 _ lo hi (by simp; omega) hfit (hin.below (below_alloc _ _) hhi)).mono ?_; rw [hv]; rintro e w1 ⟨rfl, hb1⟩))
    have H1 := (holds_new w (bkCells B a1 a2 a3 c1 c2 c3) 34).below hb1 (by simp)
    obtain ⟨p0, p1, p2, p3, p4⟩ := holds_bk H1
    have hb1' : Below w.heap.size w w1 := (below_alloc _ _).trans (hb1.mono (by simp))
    have zw1 : w.heap.size < w1.heap.size := by have := hb1.size; simp at this; omega
    clear hb1
    go_region_with (go_at_call 17; go_must (refine (specList_any B.on B.os a1 c1 ki pr _ lo hi (by have := hb1'.size; simp; omega) hon hpr hfit.os (hin.o.below (hb1'.trans ((Below.refl _ _).drew)) hhi)).mono ?_; rintro e w2 ⟨ad', cap', g, A, C, hb, rfl, at', hq, hb2⟩; have q0 := (hb2.cell (p := ⟨w.heap.size, 0, none⟩) (by exact zw1)).trans p0; have HA := hid at'; have HQ := hid hq; clear at' hq))
    all_goals go_wp2
    all_goals refine bodyPost_ret (v := .tuple #[.slice ad' (flt (fun i => lkB (B.os i) ki pr) B.on).length cap', .int .i64 B.now]) (by simp [results, Try.results5, go_sem]) rfl ?_
    all_goals rw [HE1.out, HE2.out]
    all_goals exact ⟨ad', cap', g, A, C, hb, rfl, HA.out, fun q hq => Nat.le_trans hb1'.size (HQ.out q hq), (hb1'.trans ((Below.refl _ _).drew)).trans (hb2.mono hb1'.size)⟩
end Go.Proofs.Ytahppmcmffgnfaa
