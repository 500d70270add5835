import Derived.Test.YtkbghbbaldjinaaGreatDoorM
import Derived.Deep.QuietTactic
import Derived.BigQuiet
namespace Go.Proofs.YtkbghbbaldjinaaGreatDoor
open Go.RowKit
def ascB (n : Nat) (s : Nat → ByteArray) : Bool := allTo (fun i => nameB (s i) && (i == 0 || ltB (s (i - 1)) (s i))) n
theorem drewQ {w wr : World} {q nq : Nat} (h : wr = w.drewN q) : ∃ q', wr.drewN nq = w.drewN q' := ⟨q + nq, by rw [h]; simp⟩
set_option maxRecDepth 100000 in
set_option maxHeartbeats 1000000 in
theorem asc_any (n : Nat) (s : Nat → ByteArray) (ad : Option Addr) (cap : Nat) (w : World) (lo hi : Nat) (hl : (n : Int) ≤ 140737488355328) (hm : ∀ i, i < n → ((s i).size : Int) ≤ 140737488355328) (hc : StrsIn w lo hi ad n s) :
    Calls Tryz.prog 82 #[.slice ad n cap] w fun e w' => e = .returned (.bool (ascB n s)) ∧ ∃ q, w' = w.drewN q := by
  go_enter Tryz.func82, Tryz.ntmps82
  go_wp2
  go_loopw [3] (fun i wr => ∃ k : Nat, k ≤ n ∧ i = .int .i64 k ∧ (∀ j, j < k → (nameB (s j) && (j == 0 || ltB (s (j - 1)) (s j))) = true) ∧ ∃ q, wr = w.drewN q) (fun i _ => n - (intOf i).toNat)
  case atStart => exact ⟨0, Nat.zero_le _, rfl, fun j hj => absurd hj (Nat.not_lt_zero _), 0, rfl⟩
  case round =>
    obtain ⟨k, hk, rfl, hall, q, hq⟩ := hrel
    have HQ := hid hq
    by_cases hkn : k < n
    · obtain ⟨b, off, rfl, hlo, hbh, hcx0⟩ := hc k hkn
      have hcx : wr.cell? ⟨b, off + k, none⟩ = some (.string (s k)) := by rw [hq]; exact hcx0
      have hmk := hm k hkn
      have HA := hid hall
      clear hall hcx0
      cases hn : nameB (s k) with
      | false =>
        have HE := hid (allTo_no (p := fun i => nameB (s i) && (i == 0 || ltB (s (i - 1)) (s i))) hkn (by rw [hn]; rfl))
        clear hc hm hq
        go_wp2
        go_quiet ((go_at_call 61; go_must (exact Calls.quiet_of_same (nameOk_any _ _ hmk))))
        go_wp2
        go_ret
        exact ⟨ret_bool HE.out.symm, drewQ HQ.out⟩
      | true =>
        rcases Nat.eq_zero_or_pos k with rfl | hpos
        · clear hc hm hq
          have HN := hid (show (nameB (s 0) && ((0 : Nat) == 0 || ltB (s (0 - 1)) (s 0))) = true by rw [hn]; rfl)
          simp only [Nat.add_zero] at hcx
          go_wp2
          go_quiet ((go_at_call 61; go_must (exact Calls.quiet_of_same (nameOk_any _ _ hmk))))
          go_wp2
          go_roundw
          case rel => exact ⟨1, by omega, by go_num, fun j hj => (by
            have : j = 0 := by omega
            subst this; exact HN.out), drewQ HQ.out⟩
          case measure => simp [intOf]; omega
        · obtain ⟨m, rfl⟩ : ∃ m, k = m + 1 := ⟨k - 1, by omega⟩
          obtain ⟨b', off', e, _, _, hcy0⟩ := hc m (by omega)
          cases e
          have hcy : wr.cell? ⟨b, off + m, none⟩ = some (.string (s m)) := by rw [hq]; exact hcy0
          have hg : decide ((0 : Int) < ((m + 1 : Nat) : Int)) = true := decide_eq_true (by omega)
          clear hc hm hq hcy0
          cases hlt : ltB (s m) (s (m + 1)) with
          | false =>
            have HE := hid (allTo_no (p := fun i => nameB (s i) && (i == 0 || ltB (s (i - 1)) (s i))) hkn (by rw [hn]; simp [hlt]))
            have hlt' : Op.bytesLess (s m).toList (s (m + 1)).toList = false := hlt
            clear hlt
            go_wp2
            go_quiet ((go_at_call 61; go_must (exact Calls.quiet_of_same (nameOk_any _ _ hmk))))
            go_wp2
            go_ret
            exact ⟨ret_bool HE.out.symm, drewQ HQ.out⟩
          | true =>
            have HN := hid (show (nameB (s (m + 1)) && (m + 1 == 0 || ltB (s (m + 1 - 1)) (s (m + 1)))) = true by rw [hn]; simp [hlt])
            have hlt' : Op.bytesLess (s m).toList (s (m + 1)).toList = true := hlt
            clear hlt
            go_wp2
            go_quiet ((go_at_call 61; go_must (exact Calls.quiet_of_same (nameOk_any _ _ hmk))))
            go_wp2
            go_roundw
            case rel => exact ⟨m + 2, by omega, by go_num, fun j hj => (by
              rcases Nat.lt_or_ge j (m + 1) with h3 | h3
              · exact HA.out j h3
              · have : j = m + 1 := by omega
                subst this; exact HN.out), drewQ HQ.out⟩
            case measure => simp [intOf]; omega
    · have HE := hid (allTo_iff.2 (fun i hi => hall i (by omega)))
      have : k = n := by omega
      subst this
      clear hall hc hm hq
      go_wp2
      go_ret
      exact ⟨ret_bool HE.out.symm, q, HQ.out⟩
end Go.Proofs.YtkbghbbaldjinaaGreatDoor
