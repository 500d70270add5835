import Derived.Test.YtcmimbohmninkaaGreatDoorPj
namespace Go.Proofs.YtcmimbohmninkaaGreatDoor
open Go.RowKit
/-- whether a text opens with a quote -/
def qpB (s : ByteArray) : Bool := decide (1 ≤ s.size) && decide (s.extract 0 1 = ⟨#[34]⟩)
def qpR (s : ByteArray) : ByteArray := if qpB s = true then s.extract 1 s.size else s
set_option maxRecDepth 100000 in
set_option maxHeartbeats 1000000 in
theorem hasQuote_any (s : ByteArray) (hs : (s.size : Int) ≤ 1048576) (w : World) :
    Calls Tryz.prog 112 #[.string s, .string ⟨#[34]⟩] w fun e w' => e = .returned (.bool (qpB s)) ∧ w' = w := by
  by_cases h1 : 1 ≤ s.size
  · by_cases h2 : s.extract 0 1 = ⟨#[34]⟩
    · have HB := hid (show qpB s = true by simp [qpB, h1, h2])
      have he : ((s.extract 0 1).toList == [34]) = true := by rw [h2]; simp
      clear h2
      go_enter Tryz.func112, Tryz.ntmps112
      go_wp2
      go_ret
      exact ⟨by rw [HB.out]; rfl, rfl⟩
    · have HB := hid (show qpB s = false by simp [qpB, h2])
      have he : ((s.extract 0 1).toList == [34]) = false := by
        have := toListNe h2
        simpa using this
      clear h2
      go_enter Tryz.func112, Tryz.ntmps112
      go_wp2
      go_ret
      exact ⟨by rw [HB.out]; rfl, rfl⟩
  · have HB := hid (show qpB s = false by simp [qpB, h1])
    go_enter Tryz.func112, Tryz.ntmps112
    go_wp2
    go_ret
    exact ⟨by rw [HB.out]; rfl, rfl⟩
theorem qpB_size {s : ByteArray} (h : qpB s = true) : 1 ≤ s.size := by
  simp only [qpB, Bool.and_eq_true, decide_eq_true_eq] at h
  exact h.1
set_option maxRecDepth 100000 in
set_option maxHeartbeats 1000000 in
theorem cutQuote2_any (s : ByteArray) (hs : (s.size : Int) ≤ 1048576) (w : World) :
    Calls Tryz.prog 102 #[.string s, .string ⟨#[34]⟩] w fun e w' => e = .returned (.tuple #[.string (qpR s), .bool (qpB s)]) ∧ w' = w := by
  have HH := hid (hasQuote_any s hs)
  cases hq : qpB s with
  | false =>
    have HR := hid (show qpR s = s from if_neg (by rw [hq]; decide))
    rw [hq] at HH
    clear hq
    go_enter Tryz.func102, Tryz.ntmps102
    go_wp2_with (go_at_call 112; go_must (refine (HH.out _).mono ?_; rintro e w1 ⟨rfl, hw1⟩; rw [hw1]; clear hw1))
    refine bodyPost_ret (v := .tuple #[.string s, .bool false]) (results_tmp2 (t := 4) (u := 5) rfl _ _ _) rfl ?_
    exact ⟨by rw [HR.out], rfl⟩
  | true =>
    have HR := hid (show qpR s = s.extract 1 s.size from if_pos hq)
    have h1 := qpB_size hq
    rw [hq] at HH
    clear hq
    go_enter Tryz.func102, Tryz.ntmps102
    go_wp2_with (go_at_call 112; go_must (refine (HH.out _).mono ?_; rintro e w1 ⟨rfl, hw1⟩; rw [hw1]; clear hw1))
    refine bodyPost_ret (v := .tuple #[.string (s.extract 1 s.size), .bool true]) (results_tmp2 (t := 4) (u := 5) rfl _ _ _) rfl ?_
    exact ⟨by rw [HR.out], rfl⟩
set_option maxRecDepth 100000 in
set_option maxHeartbeats 1000000 in
theorem cutQuote_any (s : ByteArray) (hs : (s.size : Int) ≤ 1048576) (w : World) :
    Calls Tryz.prog 88 #[.string s, .string ⟨#[34]⟩] w fun e w' => e = .returned (.tuple #[.string (qpR s), .bool (qpB s)]) ∧ w' = w := by
  have HH := hid (cutQuote2_any s hs)
  obtain ⟨r, hr⟩ : ∃ r, qpR s = r := ⟨_, rfl⟩
  obtain ⟨q, hq⟩ : ∃ q, qpB s = q := ⟨_, rfl⟩
  rw [hr, hq] at HH ⊢
  clear hr hq
  go_enter Tryz.func88, Tryz.ntmps88
  go_wp2_with (go_at_call 102; go_must (refine (HH.out _).mono ?_; rintro e w1 ⟨rfl, hw1⟩; rw [hw1]; clear hw1))
  refine bodyPost_ret (v := .tuple #[.string r, .bool q]) (results_tmp2 (t := 4) (u := 5) rfl _ _ _) rfl ?_
  exact ⟨rfl, rfl⟩
set_option maxRecDepth 100000 in
set_option maxHeartbeats 1000000 in
theorem takeQuote_any (R : Nat) (s : ByteArray) (hs : (s.size : Int) ≤ 1048576) (w : World) (h : RdAt w R s false) :
    Calls Tryz.prog 73 #[.pointer (some ⟨R, 0, none⟩), .string ⟨#[34]⟩] w fun e w' => e = .returned (.tuple #[]) ∧ RdAt w' R (qpR s) (!qpB s) ∧ Fr R (R + 1) w w' := by
  have HH := hid (cutQuote_any s hs)
  have c0 := h.c0
  have H1 := hid ((h.rest (qpR s)).amiss (!qpB s))
  have d1 := (h.rest (qpR s)).c1
  have g1 := (h.rest (qpR s)).f1
  have f0 := h.f0
  obtain ⟨r, hr⟩ : ∃ r, qpR s = r := ⟨_, rfl⟩
  rw [hr] at HH H1 d1 g1 ⊢
  clear hr h
  cases hq : qpB s with
  | false =>
    rw [hq] at HH H1
    clear hq
    go_enter Tryz.func73, Tryz.ntmps73
    go_wp2_with (go_at_call 88; go_must (refine (HH.out _).mono ?_; rintro e w1 ⟨rfl, hw1⟩; rw [hw1]; clear hw1))
    exact bodyPost_end (results_none rfl _ _ _) rfl ⟨rfl, H1.out, (((Fr.refl R (R + 1) w).setCell (p := ⟨R, 0, none⟩) (Nat.le_refl _) (Nat.lt_succ_self _) _)).setCell (p := ⟨R, 1, none⟩) (Nat.le_refl _) (Nat.lt_succ_self _) _⟩
  | true =>
    rw [hq] at HH H1
    clear hq
    go_enter Tryz.func73, Tryz.ntmps73
    go_wp2_with (go_at_call 88; go_must (refine (HH.out _).mono ?_; rintro e w1 ⟨rfl, hw1⟩; rw [hw1]; clear hw1))
    exact bodyPost_end (results_none rfl _ _ _) rfl ⟨rfl, H1.out, (((Fr.refl R (R + 1) w).setCell (p := ⟨R, 0, none⟩) (Nat.le_refl _) (Nat.lt_succ_self _) _)).setCell (p := ⟨R, 1, none⟩) (Nat.le_refl _) (Nat.lt_succ_self _) _⟩
end Go.Proofs.YtcmimbohmninkaaGreatDoor
