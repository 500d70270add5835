import Derived.Test.YtkcgfjnmkbbnoaaM
import Derived.Test.YtkcgfjnmkbbnoaaQ
namespace Go.Proofs.Ytkcgfjnmkbbnoaa
open Go.RowKit
set_option maxRecDepth 100000 in
set_option maxHeartbeats 2000000 in
theorem nil18 (k : Int) (w : World) : Calls Try.prog 42 #[.slice none 0 0, .int .i64 k] w fun e w' => e = .returned (.int .i64 k) ∧ w' = w := by
  go_enter Try.func42, Try.ntmps42
  go_wp2
  go_loopw [1, 5] (fun t i wr => t = .int .i64 k ∧ i = .int .i64 0 ∧ wr = w) (fun _ _ _ => 0)
  case atStart => exact ⟨rfl, rfl, rfl⟩
  case round =>
    obtain ⟨rfl, rfl, rfl⟩ := hrel
    go_wp2
    go_ret
    exact ⟨rfl, rfl⟩
set_option maxRecDepth 100000 in
set_option maxHeartbeats 2000000 in
theorem nil53 (k : Int) (w : World) : Calls Try.prog 26 #[.slice none 0 0, .int .i64 k] w fun e w' => e = .returned (.int .i64 k) ∧ w' = w := by
  go_enter Try.func26, Try.ntmps26
  go_wp2
  go_loopw [1, 5] (fun t i wr => t = .int .i64 k ∧ i = .int .i64 0 ∧ wr = w) (fun _ _ _ => 0)
  case atStart => exact ⟨rfl, rfl, rfl⟩
  case round =>
    obtain ⟨rfl, rfl, rfl⟩ := hrel
    go_wp2
    go_ret
    exact ⟨rfl, rfl⟩
set_option maxRecDepth 100000 in
set_option maxHeartbeats 2000000 in
theorem nil54 (k : Int) (w : World) : Calls Try.prog 43 #[.slice none 0 0, .int .i64 k] w fun e w' => e = .returned (.int .i64 k) ∧ w' = w := by
  go_enter Try.func43, Try.ntmps43
  go_wp2
  go_loopw [1, 5] (fun t i wr => t = .int .i64 k ∧ i = .int .i64 0 ∧ wr = w) (fun _ _ _ => 0)
  case atStart => exact ⟨rfl, rfl, rfl⟩
  case round =>
    obtain ⟨rfl, rfl, rfl⟩ := hrel
    go_wp2
    go_ret
    exact ⟨rfl, rfl⟩
set_option maxRecDepth 100000 in
set_option maxHeartbeats 2000000 in
theorem nil55 (k : Int) (w : World) : Calls Try.prog 44 #[.slice none 0 0, .int .i64 k] w fun e w' => e = .returned (.int .i64 k) ∧ w' = w := by
  go_enter Try.func44, Try.ntmps44
  go_wp2
  go_loopw [1, 5] (fun t i wr => t = .int .i64 k ∧ i = .int .i64 0 ∧ wr = w) (fun _ _ _ => 0)
  case atStart => exact ⟨rfl, rfl, rfl⟩
  case round =>
    obtain ⟨rfl, rfl, rfl⟩ := hrel
    go_wp2
    go_ret
    exact ⟨rfl, rfl⟩
set_option maxRecDepth 100000 in
set_option maxHeartbeats 2000000 in
theorem nil56 (k : Int) (w : World) : Calls Try.prog 45 #[.slice none 0 0, .int .i64 k] w fun e w' => e = .returned (.int .i64 k) ∧ w' = w := by
  go_enter Try.func45, Try.ntmps45
  go_wp2
  go_loopw [1, 5] (fun t i wr => t = .int .i64 k ∧ i = .int .i64 0 ∧ wr = w) (fun _ _ _ => 0)
  case atStart => exact ⟨rfl, rfl, rfl⟩
  case round =>
    obtain ⟨rfl, rfl, rfl⟩ := hrel
    go_wp2
    go_ret
    exact ⟨rfl, rfl⟩
set_option maxRecDepth 100000 in
set_option maxHeartbeats 2000000 in
theorem nil59 (k : Int) (w : World) : Calls Try.prog 47 #[.slice none 0 0, .int .i64 k] w fun e w' => e = .returned (.int .i64 k) ∧ w' = w := by
  go_enter Try.func47, Try.ntmps47
  go_wp2
  go_loopw [1, 5] (fun t i wr => t = .int .i64 k ∧ i = .int .i64 0 ∧ wr = w) (fun _ _ _ => 0)
  case atStart => exact ⟨rfl, rfl, rfl⟩
  case round =>
    obtain ⟨rfl, rfl, rfl⟩ := hrel
    go_wp2
    go_ret
    exact ⟨rfl, rfl⟩
/-- a recorder with nothing but its numbers -/
def rc0 (n o : Int) (u : Bool) : Rc := ⟨n, o, u, ⟨0, 0, 0, fun _ => ⟨0, ⟨#[]⟩⟩⟩, ⟨0, 0, 0, fun _ => ⟨0, ⟨#[]⟩⟩⟩, 0, fun _ => ⟨0, 0, 0, 0, 0, 0, ⟨#[]⟩, 0, fun _ => ⟨0, ⟨#[]⟩⟩⟩, 0, fun _ => ⟨#[]⟩, false, false, 0, 0, fun _ => 0, 0, fun _ => ⟨0, ⟨#[]⟩⟩, 0, fun _ => ⟨0, 0, fun _ => 0⟩, 0⟩
def rcA0 : RcA := ⟨none, none, none, none, none, none, none, 0, 0, 0, 0, 0, 0, 0⟩
abbrev rcL (n o : Int) (u : Bool) : List Value := [.int .i64 n, .int .i64 o, .bool u, .int .i64 0, .int .i64 0, .slice none 0 0, .int .i64 0, .int .i64 0, .slice none 0 0, .slice none 0 0, .slice none 0 0, .bool false, .bool false, .int .i64 0, .slice none 0 0, .slice none 0 0, .slice none 0 0, .int .i64 0]
abbrev rcZ (n o : Int) (u : Bool) : Value := .agg #[.int .i64 n, .int .i64 o, .bool u, .int .i64 0, .int .i64 0, .slice none 0 0, .int .i64 0, .int .i64 0, .slice none 0 0, .slice none 0 0, .slice none 0 0, .bool false, .bool false, .int .i64 0, .slice none 0 0, .slice none 0 0, .slice none 0 0, .int .i64 0]
theorem rcZ_eq (n o : Int) (u : Bool) : rcV (rc0 n o u) rcA0 = rcZ n o u := rfl
theorem rc0_fit (n o : Int) (u : Bool) : RcFit (rc0 n o u) := by
  refine ⟨⟨?_, fun i h => absurd h (Nat.not_lt_zero _)⟩, ⟨?_, fun i h => absurd h (Nat.not_lt_zero _)⟩, ?_, fun i h => absurd h (Nat.not_lt_zero _), ?_, fun i h => absurd h (Nat.not_lt_zero _), ?_, ?_, fun i h => absurd h (Nat.not_lt_zero _), ?_, fun i h => absurd h (Nat.not_lt_zero _)⟩ <;> simp [rc0]
theorem rc0_in (n o : Int) (u : Bool) (w : World) (lo hi : Nat) : RcIn w lo hi (rc0 n o u) rcA0 :=
  ⟨fun _i h => absurd h (Nat.not_lt_zero _), fun _i h => absurd h (Nat.not_lt_zero _), fun _i h => absurd h (Nat.not_lt_zero _), fun _i h => absurd h (Nat.not_lt_zero _), fun _i h => absurd h (Nat.not_lt_zero _), fun _i h => absurd h (Nat.not_lt_zero _), fun _i h => absurd h (Nat.not_lt_zero _)⟩
theorem eqZ_any (n o : Int) (u : Bool) (w : World) : Calls Try.prog 37 #[rcZ n o u, rcZ n o u] w fun e w' => e = .returned (.bool true) ∧ Below w.heap.size w w' :=
  eqRc_any (rc0 n o u) rcA0 rcA0 w 0 0 0 0 (Nat.zero_le _) (Nat.zero_le _) (rc0_fit n o u) (rc0_in n o u w 0 0) (rc0_in n o u w 0 0)
def numOk (n o : Int) : Bool := inB o 1 5 && inB n 1 o
set_option maxRecDepth 100000 in
set_option maxHeartbeats 2000000 in
theorem isNumber_any (n o : Int) (w : World) : Calls Try.prog 19 #[.int .i64 n, .int .i64 o] w fun e w' => e = .returned (.bool (numOk n o)) ∧ w' = w := by
  cases h1 : inB o 1 5 with
  | false =>
    have HE := hid (show numOk n o = false by rw [numOk, h1]; rfl)
    go_enter Try.func19, Try.ntmps19
    go_wp2_with (go_at_call 36; refine (within_any _ _ _ _).mono ?_; rintro e w1 ⟨rfl, rfl⟩; rw [h1])
    go_ret
    exact ⟨ret_bool HE.out.symm, rfl⟩
  | true =>
    have HE := hid (show numOk n o = inB n 1 o by rw [numOk, h1]; rfl)
    generalize numOk n o = B at *
    obtain ⟨b2, h2⟩ : ∃ b, inB n 1 o = b := ⟨_, rfl⟩
    rw [h2] at HE
    go_enter Try.func19, Try.ntmps19
    go_wp2_with (go_at_call 36; refine (within_any _ _ _ _).mono ?_; rintro e w1 ⟨rfl, rfl⟩; first | rw [h1] | rw [h2])
    go_ret
    exact ⟨ret_bool HE.out.symm, rfl⟩
end Go.Proofs.Ytkcgfjnmkbbnoaa
