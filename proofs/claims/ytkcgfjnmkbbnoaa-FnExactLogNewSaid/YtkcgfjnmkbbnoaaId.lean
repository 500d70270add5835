import Derived.Test.YtkcgfjnmkbbnoaaIc
namespace Go.Proofs.Ytkcgfjnmkbbnoaa
open Go.RowKit
theorem cell_ne {w : World} {g a b : Nat} {v : Value} (h : b ≠ a) : (w.setCell ⟨g, a, none⟩ v).cell? ⟨g, b, none⟩ = w.cell? ⟨g, b, none⟩ := World.cell?_setCell_other _ _ _ _ (fun hh => h (by cases hh; rfl))
theorem cell_eq {w : World} {g a : Nat} {v u : Value} (h : w.cell? ⟨g, a, none⟩ = some u) : (w.setCell ⟨g, a, none⟩ v).cell? ⟨g, a, none⟩ = some v := World.cell?_setCell_same _ _ _ h
def mkL (kk : Int) : List Value := [.int .i64 (kk), .int .i64 (kk + 1), .bool ((kk + 1 + 1) % 3 == 0), .int .i64 (kk + 1 + 1 + 1), .int .i64 (kk + 1 + 1 + 1 + 1), .slice none 0 0, .int .i64 (kk + 1 + 1 + 1 + 1 + 1), .int .i64 (kk + 1 + 1 + 1 + 1 + 1 + 1), .slice none 0 0, .slice none 0 0, .slice none 0 0, .bool ((kk + 1 + 1 + 1 + 1 + 1 + 1 + 1) % 3 == 0), .bool ((kk + 1 + 1 + 1 + 1 + 1 + 1 + 1 + 1) % 3 == 0), .int .i64 (kk + 1 + 1 + 1 + 1 + 1 + 1 + 1 + 1 + 1), .slice none 0 0, .slice none 0 0, .slice none 0 0, .int .i64 (kk + 1 + 1 + 1 + 1 + 1 + 1 + 1 + 1 + 1 + 1)]
abbrev mkW (wr : World) (g m : Nat) (kk : Int) : World := (((((((((((wr.setCell ⟨g, m * 18, none⟩ (.int .i64 (kk))).setCell ⟨g, m * 18 + 1, none⟩ (.int .i64 (kk + 1))).setCell ⟨g, m * 18 + 2, none⟩ (.bool ((kk + 1 + 1) % 3 == 0))).setCell ⟨g, m * 18 + 3, none⟩ (.int .i64 (kk + 1 + 1 + 1))).setCell ⟨g, m * 18 + 4, none⟩ (.int .i64 (kk + 1 + 1 + 1 + 1))).setCell ⟨g, m * 18 + 6, none⟩ (.int .i64 (kk + 1 + 1 + 1 + 1 + 1))).setCell ⟨g, m * 18 + 7, none⟩ (.int .i64 (kk + 1 + 1 + 1 + 1 + 1 + 1))).setCell ⟨g, m * 18 + 11, none⟩ (.bool ((kk + 1 + 1 + 1 + 1 + 1 + 1 + 1) % 3 == 0))).setCell ⟨g, m * 18 + 12, none⟩ (.bool ((kk + 1 + 1 + 1 + 1 + 1 + 1 + 1 + 1) % 3 == 0))).setCell ⟨g, m * 18 + 13, none⟩ (.int .i64 (kk + 1 + 1 + 1 + 1 + 1 + 1 + 1 + 1 + 1))).setCell ⟨g, m * 18 + 17, none⟩ (.int .i64 (kk + 1 + 1 + 1 + 1 + 1 + 1 + 1 + 1 + 1 + 1)))
theorem mkW_at {wr : World} {g m n : Nat} {kk : Int} (hc : wr.rangeAt g (m * 18) (rcL ((m : Int) + 1) n true)) : (mkW wr g m kk).rangeAt g (m * 18) (mkL kk) := by
  have q : ∀ j u, (rcL ((m : Int) + 1) n true)[j]? = some u → wr.cell? ⟨g, m * 18 + j, none⟩ = some u := hc
  have q0 := q 0 _ rfl
  have q1 := q 1 _ rfl
  have q2 := q 2 _ rfl
  have q3 := q 3 _ rfl
  have q4 := q 4 _ rfl
  have q5 := q 5 _ rfl
  have q6 := q 6 _ rfl
  have q7 := q 7 _ rfl
  have q8 := q 8 _ rfl
  have q9 := q 9 _ rfl
  have q10 := q 10 _ rfl
  have q11 := q 11 _ rfl
  have q12 := q 12 _ rfl
  have q13 := q 13 _ rfl
  have q14 := q 14 _ rfl
  have q15 := q 15 _ rfl
  have q16 := q 16 _ rfl
  have q17 := q 17 _ rfl
  intro j u hu
  have hj : j < 18 := (List.getElem?_eq_some_iff.1 hu).1
  rcases (show j = 0 ∨ j = 1 ∨ j = 2 ∨ j = 3 ∨ j = 4 ∨ j = 5 ∨ j = 6 ∨ j = 7 ∨ j = 8 ∨ j = 9 ∨ j = 10 ∨ j = 11 ∨ j = 12 ∨ j = 13 ∨ j = 14 ∨ j = 15 ∨ j = 16 ∨ j = 17 by omega) with rfl | rfl | rfl | rfl | rfl | rfl | rfl | rfl | rfl | rfl | rfl | rfl | rfl | rfl | rfl | rfl | rfl | rfl
  · cases hu; exact (cell_ne (by omega)).trans ((cell_ne (by omega)).trans ((cell_ne (by omega)).trans ((cell_ne (by omega)).trans ((cell_ne (by omega)).trans ((cell_ne (by omega)).trans ((cell_ne (by omega)).trans ((cell_ne (by omega)).trans ((cell_ne (by omega)).trans ((cell_ne (by omega)).trans (cell_eq (q0)))))))))))
  · cases hu; exact (cell_ne (by omega)).trans ((cell_ne (by omega)).trans ((cell_ne (by omega)).trans ((cell_ne (by omega)).trans ((cell_ne (by omega)).trans ((cell_ne (by omega)).trans ((cell_ne (by omega)).trans ((cell_ne (by omega)).trans ((cell_ne (by omega)).trans (cell_eq ((cell_ne (by omega)).trans q1))))))))))
  · cases hu; exact (cell_ne (by omega)).trans ((cell_ne (by omega)).trans ((cell_ne (by omega)).trans ((cell_ne (by omega)).trans ((cell_ne (by omega)).trans ((cell_ne (by omega)).trans ((cell_ne (by omega)).trans ((cell_ne (by omega)).trans (cell_eq ((cell_ne (by omega)).trans ((cell_ne (by omega)).trans q2))))))))))
  · cases hu; exact (cell_ne (by omega)).trans ((cell_ne (by omega)).trans ((cell_ne (by omega)).trans ((cell_ne (by omega)).trans ((cell_ne (by omega)).trans ((cell_ne (by omega)).trans ((cell_ne (by omega)).trans (cell_eq ((cell_ne (by omega)).trans ((cell_ne (by omega)).trans ((cell_ne (by omega)).trans q3))))))))))
  · cases hu; exact (cell_ne (by omega)).trans ((cell_ne (by omega)).trans ((cell_ne (by omega)).trans ((cell_ne (by omega)).trans ((cell_ne (by omega)).trans ((cell_ne (by omega)).trans (cell_eq ((cell_ne (by omega)).trans ((cell_ne (by omega)).trans ((cell_ne (by omega)).trans ((cell_ne (by omega)).trans q4))))))))))
  · cases hu; exact (cell_ne (by omega)).trans ((cell_ne (by omega)).trans ((cell_ne (by omega)).trans ((cell_ne (by omega)).trans ((cell_ne (by omega)).trans ((cell_ne (by omega)).trans ((cell_ne (by omega)).trans ((cell_ne (by omega)).trans ((cell_ne (by omega)).trans ((cell_ne (by omega)).trans ((cell_ne (by omega)).trans (q5)))))))))))
  · cases hu; exact (cell_ne (by omega)).trans ((cell_ne (by omega)).trans ((cell_ne (by omega)).trans ((cell_ne (by omega)).trans ((cell_ne (by omega)).trans (cell_eq ((cell_ne (by omega)).trans ((cell_ne (by omega)).trans ((cell_ne (by omega)).trans ((cell_ne (by omega)).trans ((cell_ne (by omega)).trans q6))))))))))
  · cases hu; exact (cell_ne (by omega)).trans ((cell_ne (by omega)).trans ((cell_ne (by omega)).trans ((cell_ne (by omega)).trans (cell_eq ((cell_ne (by omega)).trans ((cell_ne (by omega)).trans ((cell_ne (by omega)).trans ((cell_ne (by omega)).trans ((cell_ne (by omega)).trans ((cell_ne (by omega)).trans q7))))))))))
  · cases hu; exact (cell_ne (by omega)).trans ((cell_ne (by omega)).trans ((cell_ne (by omega)).trans ((cell_ne (by omega)).trans ((cell_ne (by omega)).trans ((cell_ne (by omega)).trans ((cell_ne (by omega)).trans ((cell_ne (by omega)).trans ((cell_ne (by omega)).trans ((cell_ne (by omega)).trans ((cell_ne (by omega)).trans (q8)))))))))))
  · cases hu; exact (cell_ne (by omega)).trans ((cell_ne (by omega)).trans ((cell_ne (by omega)).trans ((cell_ne (by omega)).trans ((cell_ne (by omega)).trans ((cell_ne (by omega)).trans ((cell_ne (by omega)).trans ((cell_ne (by omega)).trans ((cell_ne (by omega)).trans ((cell_ne (by omega)).trans ((cell_ne (by omega)).trans (q9)))))))))))
  · cases hu; exact (cell_ne (by omega)).trans ((cell_ne (by omega)).trans ((cell_ne (by omega)).trans ((cell_ne (by omega)).trans ((cell_ne (by omega)).trans ((cell_ne (by omega)).trans ((cell_ne (by omega)).trans ((cell_ne (by omega)).trans ((cell_ne (by omega)).trans ((cell_ne (by omega)).trans ((cell_ne (by omega)).trans (q10)))))))))))
  · cases hu; exact (cell_ne (by omega)).trans ((cell_ne (by omega)).trans ((cell_ne (by omega)).trans (cell_eq ((cell_ne (by omega)).trans ((cell_ne (by omega)).trans ((cell_ne (by omega)).trans ((cell_ne (by omega)).trans ((cell_ne (by omega)).trans ((cell_ne (by omega)).trans ((cell_ne (by omega)).trans q11))))))))))
  · cases hu; exact (cell_ne (by omega)).trans ((cell_ne (by omega)).trans (cell_eq ((cell_ne (by omega)).trans ((cell_ne (by omega)).trans ((cell_ne (by omega)).trans ((cell_ne (by omega)).trans ((cell_ne (by omega)).trans ((cell_ne (by omega)).trans ((cell_ne (by omega)).trans ((cell_ne (by omega)).trans q12))))))))))
  · cases hu; exact (cell_ne (by omega)).trans (cell_eq ((cell_ne (by omega)).trans ((cell_ne (by omega)).trans ((cell_ne (by omega)).trans ((cell_ne (by omega)).trans ((cell_ne (by omega)).trans ((cell_ne (by omega)).trans ((cell_ne (by omega)).trans ((cell_ne (by omega)).trans ((cell_ne (by omega)).trans q13))))))))))
  · cases hu; exact (cell_ne (by omega)).trans ((cell_ne (by omega)).trans ((cell_ne (by omega)).trans ((cell_ne (by omega)).trans ((cell_ne (by omega)).trans ((cell_ne (by omega)).trans ((cell_ne (by omega)).trans ((cell_ne (by omega)).trans ((cell_ne (by omega)).trans ((cell_ne (by omega)).trans ((cell_ne (by omega)).trans (q14)))))))))))
  · cases hu; exact (cell_ne (by omega)).trans ((cell_ne (by omega)).trans ((cell_ne (by omega)).trans ((cell_ne (by omega)).trans ((cell_ne (by omega)).trans ((cell_ne (by omega)).trans ((cell_ne (by omega)).trans ((cell_ne (by omega)).trans ((cell_ne (by omega)).trans ((cell_ne (by omega)).trans ((cell_ne (by omega)).trans (q15)))))))))))
  · cases hu; exact (cell_ne (by omega)).trans ((cell_ne (by omega)).trans ((cell_ne (by omega)).trans ((cell_ne (by omega)).trans ((cell_ne (by omega)).trans ((cell_ne (by omega)).trans ((cell_ne (by omega)).trans ((cell_ne (by omega)).trans ((cell_ne (by omega)).trans ((cell_ne (by omega)).trans ((cell_ne (by omega)).trans (q16)))))))))))
  · cases hu; exact cell_eq ((cell_ne (by omega)).trans ((cell_ne (by omega)).trans ((cell_ne (by omega)).trans ((cell_ne (by omega)).trans ((cell_ne (by omega)).trans ((cell_ne (by omega)).trans ((cell_ne (by omega)).trans ((cell_ne (by omega)).trans ((cell_ne (by omega)).trans ((cell_ne (by omega)).trans q17))))))))))
theorem mkW_out {wr : World} {g m i : Nat} {kk : Int} {cs : List Value} (hi : i ≠ m) (hl : cs.length = 18) (hc : wr.rangeAt g (i * 18) cs) : (mkW wr g m kk).rangeAt g (i * 18) cs := by
  intro j u hu
  have hj : j < 18 := by rw [← hl]; exact (List.getElem?_eq_some_iff.1 hu).1
  exact (cell_ne (by omega)).trans ((cell_ne (by omega)).trans ((cell_ne (by omega)).trans ((cell_ne (by omega)).trans ((cell_ne (by omega)).trans ((cell_ne (by omega)).trans ((cell_ne (by omega)).trans ((cell_ne (by omega)).trans ((cell_ne (by omega)).trans ((cell_ne (by omega)).trans ((cell_ne (by omega)).trans (hc j u hu)))))))))))
theorem room_set {w : World} {g N : Nat} (h : Room w g N) (a : Nat) (v : Value) : Room (w.setCell ⟨g, a, none⟩ v) g N := by
  refine ⟨fun j hj => ?_, fun j => by rw [World.frozen?_setCell]; exact h.free j, by rw [World.size_setCell]; exact h.lt⟩
  obtain ⟨u, hu⟩ := h.has j hj
  by_cases e : j = a
  · subst e; exact ⟨v, cell_eq hu⟩
  · exact ⟨u, (cell_ne e).trans hu⟩
theorem mkW_room {wr : World} {g m N : Nat} {kk : Int} (h : Room wr g N) : Room (mkW wr g m kk) g N := room_set (room_set (room_set (room_set (room_set (room_set (room_set (room_set (room_set (room_set (room_set h _ _) _ _) _ _) _ _) _ _) _ _) _ _) _ _) _ _) _ _) _ _
theorem mkW_fr {w wr : World} {g m : Nat} {kk : Int} (h : Fr g (g + 1) w wr) : Fr g (g + 1) w (mkW wr g m kk) := by
  iterate 11 refine Fr.setCell ?_ (by show g ≤ g; omega) (by show g < g + 1; omega) _
  exact h
structure MkRow (w : World) (g n : Nat) (k0 : Int) : Prop where
  room : Room w g (n * 18)
  at_ : ∀ i, i < n → w.rangeAt g (i * 18) (mkL (k0 + 11 * i))
set_option maxRecDepth 100000 in
set_option maxHeartbeats 8000000 in
theorem markRow_any (g n : Nat) (k0 : Int) (h0 : 0 ≤ k0) (h1 : k0 ≤ 1000) (w : World) (hn5 : n ≤ 5) (row : NwRow w g n n) :
    Calls Try.prog 25 #[.slice (some ⟨g, 0, none⟩) n n, .int .i64 k0] w fun e w' => e = .returned (.int .i64 (k0 + 11 * n)) ∧ MkRow w' g n k0 ∧ Fr g (g + 1) w w' := by
  have HW := hid row
  clear row
  go_enter Try.func25, Try.ntmps25
  go_wp2
  go_loopw [1, 5] (fun t i wr => ∃ (m : Nat) (kk : Int), m ≤ n ∧ i = .int .i64 m ∧ t = .int .i64 kk ∧ kk = k0 + 11 * m ∧ Room wr g (n * 18) ∧ (∀ i, i < m → wr.rangeAt g (i * 18) (mkL (k0 + 11 * i))) ∧ (∀ i, m ≤ i → i < n → wr.rangeAt g (i * 18) (rcL ((i : Int) + 1) n true)) ∧ Fr g (g + 1) w wr) (fun _ i _ => n - (intOf i).toNat)
  case atStart => exact ⟨0, k0, Nat.zero_le _, rfl, rfl, by omega, HW.out.room, fun i h => absurd h (Nat.not_lt_zero _), fun i _ h => HW.out.at_ i h, Fr.refl _ _ _⟩
  case round =>
    obtain ⟨m, kk, hm, rfl, rfl, hkk, hr, ha, hb, hf⟩ := hrel
    by_cases hmn : m < n
    · have hc := hb m (Nat.le_refl _) hmn
      have q : ∀ j u, (rcL ((m : Int) + 1) n true)[j]? = some u → wr.cell? ⟨g, m * 18 + j, none⟩ = some u := hc
      have q0 := q 0 _ rfl
      have q1 := q 1 _ rfl
      have q2 := q 2 _ rfl
      have q3 := q 3 _ rfl
      have q4 := q 4 _ rfl
      have q5 := q 5 _ rfl
      have q6 := q 6 _ rfl
      have q7 := q 7 _ rfl
      have q8 := q 8 _ rfl
      have q9 := q 9 _ rfl
      have q10 := q 10 _ rfl
      have q11 := q 11 _ rfl
      have q12 := q 12 _ rfl
      have q13 := q 13 _ rfl
      have q14 := q 14 _ rfl
      have q15 := q 15 _ rfl
      have q16 := q 16 _ rfl
      have q17 := q 17 _ rfl
      simp only [Nat.add_zero] at q0
      have qf := hr.free
      have R1 := hid (mkW_room (m := m) (kk := kk) hr)
      have A1 := hid (show ∀ i, i < m + 1 → (mkW wr g m kk).rangeAt g (i * 18) (mkL (k0 + 11 * i)) from fun i hi => by
        by_cases e : i = m
        · subst e; rw [← hkk]; exact mkW_at hc
        · exact mkW_out e rfl (ha i (by omega)))
      have B1 := hid (show ∀ i, m + 1 ≤ i → i < n → (mkW wr g m kk).rangeAt g (i * 18) (rcL ((i : Int) + 1) n true) from fun i h1 h2 => mkW_out (by omega) rfl (hb i (by omega) h2))
      have F1 := hid (mkW_fr (m := m) (kk := kk) hf)
      have HKK := hid hkk
      have b0 : 0 ≤ kk := by omega
      have b1 : kk ≤ 2000 := by omega
      clear q hc hr ha hb hf hkk
      go_wp2_with (first | (go_at_call 42; go_must (refine (nil18 _ _).mono ?_; rintro e w1 ⟨rfl, h0⟩; rw [h0]; clear h0 w1)) | (go_at_call 26; go_must (refine (nil53 _ _).mono ?_; rintro e w1 ⟨rfl, h0⟩; rw [h0]; clear h0 w1)) | (go_at_call 43; go_must (refine (nil54 _ _).mono ?_; rintro e w1 ⟨rfl, h0⟩; rw [h0]; clear h0 w1)) | (go_at_call 44; go_must (refine (nil55 _ _).mono ?_; rintro e w1 ⟨rfl, h0⟩; rw [h0]; clear h0 w1)) | (go_at_call 45; go_must (refine (nil56 _ _).mono ?_; rintro e w1 ⟨rfl, h0⟩; rw [h0]; clear h0 w1)))
      go_roundw
      case rel => exact ⟨m + 1, kk + 1 + 1 + 1 + 1 + 1 + 1 + 1 + 1 + 1 + 1 + 1, by omega, by go_num, rfl, by have := HKK.out; omega, R1.out, A1.out, B1.out, F1.out⟩
      case measure => simp [intOf]; omega
    · obtain rfl : m = n := by omega
      have A1 := hid (MkRow.mk hr ha)
      clear hr ha hb
      go_wp2
      go_ret
      exact ⟨ret_int (by omega), A1.out, hf⟩
set_option maxRecDepth 100000 in
set_option maxHeartbeats 2000000 in
theorem hnilA (k : Int) (w : World) : Calls Try.prog 46 #[.slice none 0 0, .int .i64 k] w fun e w' => e = .returned (.int .i64 k) ∧ w' = w := by
  go_enter Try.func46, Try.ntmps46
  go_wp2
  go_loopw [1, 5] (fun t i wr => t = .int .i64 k ∧ i = .int .i64 0 ∧ wr = w) (fun _ _ _ => 0)
  case atStart => exact ⟨rfl, rfl, rfl⟩
  case round =>
    obtain ⟨rfl, rfl, rfl⟩ := hrel
    go_wp2
    go_ret
    exact ⟨rfl, rfl⟩
set_option maxRecDepth 100000 in
set_option maxHeartbeats 2000000 in
theorem hnilB (k : Int) (w : World) : Calls Try.prog 32 #[.slice none 0 0, .int .i64 k] w fun e w' => e = .returned (.int .i64 k) ∧ w' = w := by
  go_enter Try.func32, Try.ntmps32
  go_wp2
  go_loopw [1, 5] (fun t i wr => t = .int .i64 k ∧ i = .int .i64 0 ∧ wr = w) (fun _ _ _ => 0)
  case atStart => exact ⟨rfl, rfl, rfl⟩
  case round =>
    obtain ⟨rfl, rfl, rfl⟩ := hrel
    go_wp2
    go_ret
    exact ⟨rfl, rfl⟩
set_option maxRecDepth 100000 in
set_option maxHeartbeats 2000000 in
theorem hnilC (k : Int) (w : World) : Calls Try.prog 48 #[.slice none 0 0, .int .i64 k] w fun e w' => e = .returned (.int .i64 k) ∧ w' = w := by
  go_enter Try.func48, Try.ntmps48
  go_wp2
  go_loopw [1, 5] (fun t i wr => t = .int .i64 k ∧ i = .int .i64 0 ∧ wr = w) (fun _ _ _ => 0)
  case atStart => exact ⟨rfl, rfl, rfl⟩
  case round =>
    obtain ⟨rfl, rfl, rfl⟩ := hrel
    go_wp2
    go_ret
    exact ⟨rfl, rfl⟩
set_option maxRecDepth 100000 in
set_option maxHeartbeats 2000000 in
theorem hnilD (k : Int) (w : World) : Calls Try.prog 49 #[.slice none 0 0, .int .i64 k] w fun e w' => e = .returned (.int .i64 k) ∧ w' = w := by
  go_enter Try.func49, Try.ntmps49
  go_wp2
  go_loopw [1, 5] (fun t i wr => t = .int .i64 k ∧ i = .int .i64 0 ∧ wr = w) (fun _ _ _ => 0)
  case atStart => exact ⟨rfl, rfl, rfl⟩
  case round =>
    obtain ⟨rfl, rfl, rfl⟩ := hrel
    go_wp2
    go_ret
    exact ⟨rfl, rfl⟩
set_option maxRecDepth 100000 in
set_option maxHeartbeats 8000000 in
theorem heldRow_any (g n : Nat) (k0 : Int) (h0 : 0 ≤ k0) (h1 : k0 ≤ 1000) (w : World) (hn5 : n ≤ 5) (row : MkRow w g n k0) :
    Calls Try.prog 31 #[.slice (some ⟨g, 0, none⟩) n n, .int .i64 k0] w fun e w' => e = .returned (.int .i64 (k0 + 11 * n)) ∧ w' = w := by
  have HW := hid row
  clear row
  go_enter Try.func31, Try.ntmps31
  go_wp2
  go_loopw [1, 5] (fun t i wr => ∃ (m : Nat) (kk : Int), m ≤ n ∧ i = .int .i64 m ∧ t = .int .i64 kk ∧ kk = k0 + 11 * m ∧ wr = w) (fun _ i _ => n - (intOf i).toNat)
  case atStart => exact ⟨0, k0, Nat.zero_le _, rfl, rfl, by omega, rfl⟩
  case round =>
    obtain ⟨m, kk, hm, rfl, rfl, hkk, hw⟩ := hrel
    by_cases hmn : m < n
    · have hc := HW.out.at_ m hmn
      rw [← hkk, ← hw] at hc
      have q : ∀ j u, (mkL kk)[j]? = some u → wr.cell? ⟨g, m * 18 + j, none⟩ = some u := hc
      have q0 := q 0 _ rfl
      have q1 := q 1 _ rfl
      have q2 := q 2 _ rfl
      have q3 := q 3 _ rfl
      have q4 := q 4 _ rfl
      have q5 := q 5 _ rfl
      have q6 := q 6 _ rfl
      have q7 := q 7 _ rfl
      have q8 := q 8 _ rfl
      have q9 := q 9 _ rfl
      have q10 := q 10 _ rfl
      have q11 := q 11 _ rfl
      have q12 := q 12 _ rfl
      have q13 := q 13 _ rfl
      have q14 := q 14 _ rfl
      have q15 := q 15 _ rfl
      have q16 := q 16 _ rfl
      have q17 := q 17 _ rfl
      simp only [Nat.add_zero] at q0
      have HKK := hid hkk
      have HWW := hid hw
      have b0 : 0 ≤ kk := by omega
      have b1 : kk ≤ 2000 := by omega
      clear q hc hkk hw
      go_wp2_with (first | (go_at_call 46; go_must (refine (hnilA _ _).mono ?_; rintro e w1 ⟨rfl, h0⟩; rw [h0]; clear h0 w1)) | (go_at_call 32; go_must (refine (hnilB _ _).mono ?_; rintro e w1 ⟨rfl, h0⟩; rw [h0]; clear h0 w1)) | (go_at_call 47; go_must (refine (nil59 _ _).mono ?_; rintro e w1 ⟨rfl, h0⟩; rw [h0]; clear h0 w1)) | (go_at_call 48; go_must (refine (hnilC _ _).mono ?_; rintro e w1 ⟨rfl, h0⟩; rw [h0]; clear h0 w1)) | (go_at_call 49; go_must (refine (hnilD _ _).mono ?_; rintro e w1 ⟨rfl, h0⟩; rw [h0]; clear h0 w1)))
      go_roundw
      case rel => exact ⟨m + 1, kk + 1 + 1 + 1 + 1 + 1 + 1 + 1 + 1 + 1 + 1 + 1, by omega, by go_num, rfl, by have := HKK.out; omega, HWW.out⟩
      case measure => simp [intOf]; omega
    · obtain rfl : m = n := by omega
      go_wp2
      go_ret
      exact ⟨ret_int (by omega), by first | rfl | exact hw⟩
end Go.Proofs.Ytkcgfjnmkbbnoaa
