import Derived.Test.YtkcgfjnmkbbnoaaId
namespace Go.Proofs.Ytkcgfjnmkbbnoaa
open Go.RowKit
set_option maxRecDepth 100000 in
set_option maxHeartbeats 2000000 in
theorem wnilA (k : Int) (w : World) : Calls Try.prog 25 #[.slice none 0 0, .int .i64 k] w fun e w' => e = .returned (.int .i64 k) ∧ w' = w := by
  go_enter Try.func25, Try.ntmps25
  go_wp2
  go_loopw [1, 5] (fun t i wr => t = .int .i64 k ∧ i = .int .i64 0 ∧ wr = w) (fun _ _ _ => 0)
  case atStart => exact ⟨rfl, rfl, rfl⟩
  case round =>
    obtain ⟨rfl, rfl, rfl⟩ := hrel
    go_wp2
    go_ret
    exact ⟨rfl, rfl⟩
set_option maxRecDepth 100000 in
set_option maxHeartbeats 2000000 in
theorem wnilB (k : Int) (w : World) : Calls Try.prog 31 #[.slice none 0 0, .int .i64 k] w fun e w' => e = .returned (.int .i64 k) ∧ w' = w := by
  go_enter Try.func31, Try.ntmps31
  go_wp2
  go_loopw [1, 5] (fun t i wr => t = .int .i64 k ∧ i = .int .i64 0 ∧ wr = w) (fun _ _ _ => 0)
  case atStart => exact ⟨rfl, rfl, rfl⟩
  case round =>
    obtain ⟨rfl, rfl, rfl⟩ := hrel
    go_wp2
    go_ret
    exact ⟨rfl, rfl⟩
set_option maxRecDepth 100000 in
set_option maxHeartbeats 2000000 in
theorem wnilC (k : Int) (w : World) : Calls Try.prog 27 #[.slice none 0 0, .int .i64 k] w fun e w' => e = .returned (.int .i64 k) ∧ w' = w := by
  go_enter Try.func27, Try.ntmps27
  go_wp2
  go_loopw [1, 5] (fun t i wr => t = .int .i64 k ∧ i = .int .i64 0 ∧ wr = w) (fun _ _ _ => 0)
  case atStart => exact ⟨rfl, rfl, rfl⟩
  case round =>
    obtain ⟨rfl, rfl, rfl⟩ := hrel
    go_wp2
    go_ret
    exact ⟨rfl, rfl⟩
set_option maxRecDepth 100000 in
set_option maxHeartbeats 2000000 in
theorem wnilD (k : Int) (w : World) : Calls Try.prog 33 #[.slice none 0 0, .int .i64 k] w fun e w' => e = .returned (.int .i64 k) ∧ w' = w := by
  go_enter Try.func33, Try.ntmps33
  go_wp2
  go_loopw [1, 5] (fun t i wr => t = .int .i64 k ∧ i = .int .i64 0 ∧ wr = w) (fun _ _ _ => 0)
  case atStart => exact ⟨rfl, rfl, rfl⟩
  case round =>
    obtain ⟨rfl, rfl, rfl⟩ := hrel
    go_wp2
    go_ret
    exact ⟨rfl, rfl⟩
abbrev nwV (g n : Nat) : Value := .agg #[.slice (some ⟨g, 0, none⟩) n n, .slice none 0 0, .slice none 0 0]
theorem MkRow.fr {w w' : World} {g n lo hi : Nat} {k0 : Int} (h : MkRow w g n k0) (hf : Fr lo hi w w') (ho : g < lo ∨ hi ≤ g) : MkRow w' g n k0 := by
  have hc : ∀ j, w'.cell? ⟨g, j, none⟩ = w.cell? ⟨g, j, none⟩ := fun j => hf.cell (p := ⟨g, j, none⟩) h.room.lt ho
  exact ⟨⟨fun j hj => by obtain ⟨u, hu⟩ := h.room.has j hj; exact ⟨u, (hc j).trans hu⟩, fun j => (hf.frozen (p := ⟨g, j, none⟩) h.room.lt ho).trans (h.room.free j), Nat.lt_of_lt_of_le h.room.lt hf.size⟩, fun i hi' => rangeAt_same (h.at_ i hi') hc⟩
set_option maxRecDepth 100000 in
set_option maxHeartbeats 4000000 in
theorem markNw_any (g n : Nat) (w : World) (hn5 : n ≤ 5) (row : NwRow w g n n) : Calls Try.prog 13 #[nwV g n, .int .i64 1] w fun e w' => e = .returned (.int .i64 (1 + 11 * n)) ∧ MkRow w' g n 1 ∧ Fr g (g + 1) w w' := by
  have hlt := row.room.lt
  have hF0 : Fr g (g + 1) w (w.alloc (.cells #[.slice (some ⟨g, 0, none⟩) n n, .slice none 0 0, .slice none 0 0] 26)) := Fr.of_below (below_alloc _ _)
  have c1 := markRow_any g n 1 (by omega) (by omega) (w.alloc (.cells #[.slice (some ⟨g, 0, none⟩) n n, .slice none 0 0, .slice none 0 0] 26)) hn5 (row.fr (lo := 0) (hi := 0) (Fr.of_below (below_alloc _ _)) (Or.inr (Nat.zero_le _)))
  have H0 := holds_new w #[.slice (some ⟨g, 0, none⟩) n n, .slice none 0 0, .slice none 0 0] 26
  clear row
  go_enter Try.func13, Try.ntmps13
  go_wp2_with fail
  refine c1.mono ?_
  clear c1
  rintro e w1 ⟨rfl, m1, f1⟩
  obtain ⟨p0, p1, p2⟩ := holds3 (H0.fr f1 (by simp) (Or.inr (by omega)))
  have M1 := hid m1
  have F1 := hid (hF0.trans f1)
  clear m1 f1 H0 hF0
  go_wp2_with (first | (go_at_call 26; go_must (refine (nil53 _ _).mono ?_; rintro e w9 ⟨rfl, h9⟩; rw [h9]; clear h9 w9)) | (go_at_call 27; go_must (refine (wnilC _ _).mono ?_; rintro e w9 ⟨rfl, h9⟩; rw [h9]; clear h9 w9)))
  go_ret
  exact ⟨rfl, M1.out, F1.out⟩
set_option maxRecDepth 100000 in
set_option maxHeartbeats 4000000 in
theorem heldNw_any (g n : Nat) (w : World) (hn5 : n ≤ 5) (row : MkRow w g n 1) : Calls Try.prog 15 #[nwV g n, .int .i64 1] w fun e w' => e = .returned (.int .i64 (1 + 11 * n)) ∧ Below w.heap.size w w' := by
  have c1 := heldRow_any g n 1 (by omega) (by omega) (w.alloc (.cells #[.slice (some ⟨g, 0, none⟩) n n, .slice none 0 0, .slice none 0 0] 26)) hn5 (row.fr (lo := 0) (hi := 0) (Fr.of_below (below_alloc _ _)) (Or.inr (Nat.zero_le _)))
  obtain ⟨p0, p1, p2⟩ := holds3 (holds_new w #[.slice (some ⟨g, 0, none⟩) n n, .slice none 0 0, .slice none 0 0] 26)
  have hneg : ¬ ((1 : Int) + 11 * n < 0) := by omega
  clear row
  go_enter Try.func15, Try.ntmps15
  go_wp2_with (first | (go_at_call 31; go_must (refine c1.mono ?_; rintro e w9 ⟨rfl, h9⟩; rw [h9]; clear h9 w9)) | (go_at_call 32; go_must (refine (hnilB _ _).mono ?_; rintro e w9 ⟨rfl, h9⟩; rw [h9]; clear h9 w9)) | (go_at_call 33; go_must (refine (wnilD _ _).mono ?_; rintro e w9 ⟨rfl, h9⟩; rw [h9]; clear h9 w9)))
  go_ret
  exact ⟨rfl, below_alloc _ _⟩
set_option maxRecDepth 100000 in
set_option maxHeartbeats 4000000 in
theorem markZ_any (w : World) : Calls Try.prog 13 #[zrw, .int .i64 1] w fun e w' => e = .returned (.int .i64 1) ∧ Below w.heap.size w w' := by
  unfold zrw
  go_enter Try.func13, Try.ntmps13
  go_wp2_with (first | (go_at_call 25; go_must (refine (wnilA _ _).mono ?_; rintro e w9 ⟨rfl, h9⟩; rw [h9]; clear h9 w9)) | (go_at_call 26; go_must (refine (nil53 _ _).mono ?_; rintro e w9 ⟨rfl, h9⟩; rw [h9]; clear h9 w9)) | (go_at_call 27; go_must (refine (wnilC _ _).mono ?_; rintro e w9 ⟨rfl, h9⟩; rw [h9]; clear h9 w9)))
  go_ret
  exact ⟨rfl, below_alloc _ _⟩
set_option maxRecDepth 100000 in
set_option maxHeartbeats 4000000 in
theorem heldZ_any (w : World) : Calls Try.prog 15 #[zrw, .int .i64 1] w fun e w' => e = .returned (.int .i64 1) ∧ Below w.heap.size w w' := by
  unfold zrw
  go_enter Try.func15, Try.ntmps15
  go_wp2_with (first | (go_at_call 31; go_must (refine (wnilB _ _).mono ?_; rintro e w9 ⟨rfl, h9⟩; rw [h9]; clear h9 w9)) | (go_at_call 32; go_must (refine (hnilB _ _).mono ?_; rintro e w9 ⟨rfl, h9⟩; rw [h9]; clear h9 w9)) | (go_at_call 33; go_must (refine (wnilD _ _).mono ?_; rintro e w9 ⟨rfl, h9⟩; rw [h9]; clear h9 w9)))
  go_ret
  exact ⟨rfl, below_alloc _ _⟩
end Go.Proofs.Ytkcgfjnmkbbnoaa
