import Derived.Test.YtjepponnhieocaaW
namespace Go.Proofs.Ytjepponnhieocaa
open Go.RowKit
def quietS (r : Rc) : Bool := (!r.ld) && ((!r.tr) && ((r.bal == 0) && (((r.yn : Int) + (r.bn : Int) + (r.an : Int)) == 0)))
set_option maxRecDepth 100000 in
set_option maxHeartbeats 8000000 in
theorem quietS_any (r : Rc) (A : RcA) (w : World) (y1 : (r.yn : Int) ≤ 17592186044416) (y2 : (r.bn : Int) ≤ 8796093022208) (y3 : (r.an : Int) ≤ 8796093022208) : Calls Try.prog 93 #[rcV r A] w fun e w' => e = .returned (.bool (quietS r)) ∧ Below w.heap.size w w' := by
  have mark : Nat := 0
  obtain ⟨b0, h0⟩ : ∃ b, (!r.ld) = b := ⟨_, rfl⟩
  obtain ⟨b1, h1⟩ : ∃ b, (!r.tr) = b := ⟨_, rfl⟩
  obtain ⟨b2, h2⟩ : ∃ b, (r.bal == 0) = b := ⟨_, rfl⟩
  obtain ⟨b3, h3⟩ : ∃ b, (((r.yn : Int) + (r.bn : Int) + (r.an : Int)) == 0) = b := ⟨_, rfl⟩
  have HB := hid (show quietS r = (b0 && (b1 && (b2 && b3))) by rw [← h0, ← h1, ← h2, ← h3]; rfl)
  cases b0
  · go_enter Try.func93, Try.ntmps93
    go_wp2_with (first | ((with_reducible show wpList _ _ _ (⟨some 3, _, _, _, _, _⟩ :: _) _ _); clear mark; have hB0 := below_alloc w (.cells (rcC r A) 58); have H0 := holds_new w (rcC r A) 58; have hz0 : w.heap.size < (w.alloc (.cells (rcC r A) 58)).heap.size := (by simp); generalize w.alloc (.cells (rcC r A) 58) = W at *; obtain ⟨p0, p1, p2, p3, p4, p5, p6, p7, p8, p9, p10, p11, p12, p13, p14, p15, p16, p17⟩ := holds18 H0))
    go_ret
    exact ⟨ret_bool HB.out.symm, hB0⟩
  cases b1
  · go_enter Try.func93, Try.ntmps93
    go_wp2_with (first | ((with_reducible show wpList _ _ _ (⟨some 3, _, _, _, _, _⟩ :: _) _ _); clear mark; have hB0 := below_alloc w (.cells (rcC r A) 58); have H0 := holds_new w (rcC r A) 58; have hz0 : w.heap.size < (w.alloc (.cells (rcC r A) 58)).heap.size := (by simp); generalize w.alloc (.cells (rcC r A) 58) = W at *; obtain ⟨p0, p1, p2, p3, p4, p5, p6, p7, p8, p9, p10, p11, p12, p13, p14, p15, p16, p17⟩ := holds18 H0))
    go_ret
    exact ⟨ret_bool HB.out.symm, hB0⟩
  cases b2
  · go_enter Try.func93, Try.ntmps93
    go_wp2_with (first | ((with_reducible show wpList _ _ _ (⟨some 3, _, _, _, _, _⟩ :: _) _ _); clear mark; have hB0 := below_alloc w (.cells (rcC r A) 58); have H0 := holds_new w (rcC r A) 58; have hz0 : w.heap.size < (w.alloc (.cells (rcC r A) 58)).heap.size := (by simp); generalize w.alloc (.cells (rcC r A) 58) = W at *; obtain ⟨p0, p1, p2, p3, p4, p5, p6, p7, p8, p9, p10, p11, p12, p13, p14, p15, p16, p17⟩ := holds18 H0))
    go_ret
    exact ⟨ret_bool HB.out.symm, hB0⟩
  go_enter Try.func93, Try.ntmps93
  go_wp2_with (first | ((with_reducible show wpList _ _ _ (⟨some 3, _, _, _, _, _⟩ :: _) _ _); clear mark; have hB0 := below_alloc w (.cells (rcC r A) 58); have H0 := holds_new w (rcC r A) 58; have hz0 : w.heap.size < (w.alloc (.cells (rcC r A) 58)).heap.size := (by simp); generalize w.alloc (.cells (rcC r A) 58) = W at *; obtain ⟨p0, p1, p2, p3, p4, p5, p6, p7, p8, p9, p10, p11, p12, p13, p14, p15, p16, p17⟩ := holds18 H0))
  go_ret
  exact ⟨ret_bool (by rw [HB.out, ← h3]; simp), hB0⟩
end Go.Proofs.Ytjepponnhieocaa
