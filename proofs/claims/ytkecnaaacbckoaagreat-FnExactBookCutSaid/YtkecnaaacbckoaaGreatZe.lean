import Derived.Test.YtkecnaaacbckoaaGreatZd
namespace Go.Proofs.YtkecnaaacbckoaaGreat
open Go.RowKit Go.Maps
def tisB (n : Nat) (x : Nat → Ti) (now : Int) : Bool := decide (n ≤ 50) && (tiAsc n x && allTo (fun i => tiB (x i) now) n)
set_option maxRecDepth 100000 in
set_option maxHeartbeats 1000000 in
theorem ticsFit_any (now floor : Int) (n : Nat) (x : Nat → Ti) (a1 a2 a3 : Option Addr) (n1 c1 n2 c2 c3 : Nat) (w : World) (lo hi : Nat) (hhi : hi ≤ w.heap.size) (hl : (n : Int) ≤ 1099511627776) (hf : ∀ i, i < n → TiFit (x i)) (hc : TicsIn w lo hi a3 n x) :
    Calls Tryz.prog 98 #[.agg #[.int .i64 now, .int .i64 floor, .slice a1 n1 c1, .slice a2 n2 c2, .slice a3 n c3]] w fun e w' => e = .returned (.bool (tisB n x now)) ∧ Below w.heap.size w w' := by
  have hcA := fun o => hc.below (below_alloc' w o) hhi
  by_cases h50 : (50 : Int) < n
  · have HE := hid (show tisB n x now = false by unfold tisB; rw [decide_eq_false (by omega)]; rfl)
    go_enter Tryz.func98, Tryz.ntmps98
    go_wp2
    go_ret
    exact ⟨ret_bool HE.out.symm, below_alloc' _ _⟩
  cases ha : tiAsc n x with
  | false =>
    have HE := hid (show tisB n x now = false by unfold tisB; rw [ha]; simp)
    go_enter Tryz.func98, Tryz.ntmps98
    go_wp2_with (go_at_call 139; refine (tiAsc_any n x a3 c3 _ lo hi (by simp; omega) (by omega) (hcA _)).mono ?_; rintro e w1 ⟨rfl, hb1⟩)
    go_ret
    exact ⟨ret_bool HE.out.symm, (below_alloc' _ _).trans (hb1.mono (by simp))⟩
  | true =>
    have HAS := hid ha
    go_enter Tryz.func98, Tryz.ntmps98
    go_wp2_with (go_at_call 139; refine (tiAsc_any n x a3 c3 _ lo hi (by simp; omega) (by omega) (hcA _)).mono ?_; rintro e w1 ⟨rfl, hb1⟩; have k0 := box_cell hb1 0; have k4 := box_cell hb1 4; simp only [List.getElem?_toArray, List.getElem?_cons_succ, List.getElem?_cons_zero] at k0 k4; have hB1 : Below w.heap.size w w1 := (below_alloc' _ _).trans (hb1.mono (by simp)); have hz1 : w.heap.size < w1.heap.size := (by have := hb1.size; simp at this; omega); clear hb1)
    go_loopw [18] (fun i wr => ∃ k : Nat, k ≤ n ∧ i = .int .i64 k ∧ (∀ j, j < k → tiB (x j) now = true) ∧ Below w.heap.size w wr ∧ w.heap.size < wr.heap.size ∧ wr.cell? ⟨w.heap.size, 0, none⟩ = some (.int .i64 now)) (fun i _ => n - (intOf i).toNat)
    case atStart => exact ⟨0, Nat.zero_le _, rfl, fun j hj => absurd hj (Nat.not_lt_zero _), hB1, hz1, k0⟩
    case round =>
      obtain ⟨k, hk, rfl, hall, hb, hz, hb0⟩ := hrel
      by_cases hkn : k < n
      · obtain ⟨b, off, rfl, hlo, hbh, hcx⟩ := hc k hkn
        have hfk := hf k hkn
        obtain ⟨d0, d1, d2, d3, d4⟩ := hcx.below hb (by omega)
        have HA := hid hall
        clear hall hc hf hcx hcA k0 k4 hB1 hz1 ha
        cases hp : tiB (x k) now with
        | false =>
          have HE := hid (show tisB n x now = false by unfold tisB; rw [allTo_no (p := fun i => tiB (x i) now) hkn hp]; simp)
          go_wp2_with (go_at_call 141; refine (ticket_any (x k) now _ hfk).mono ?_; rintro e w2 ⟨rfl, hb2⟩; rw [hp])
          go_ret
          exact ⟨ret_bool HE.out.symm, (hb.alloc hb.size _).trans (hb2.mono (by simp; have := hb.size; omega))⟩
        | true =>
          have HP := hid hp
          go_wp2_with (go_at_call 141; refine (ticket_any (x k) now _ hfk).mono ?_; rintro e w2 ⟨rfl, hb2⟩; rw [hp])
          have hB2 : Below w.heap.size w w2 := (hb.alloc hb.size _).trans (hb2.mono (by simp; have := hb.size; omega))
          have hz2 : w.heap.size < w2.heap.size := by have := hb2.size; simp at this; omega
          have h00 : w2.cell? ⟨w.heap.size, 0, none⟩ = some (.int .i64 now) := (hb2.cell (p := ⟨w.heap.size, 0, none⟩) (by simp; omega)).trans ((World.cell?_alloc_past _ _ _ hz).trans hb0)
          go_roundw
          case rel => exact ⟨k + 1, by omega, by go_num, fun j hj => (by
            rcases Nat.lt_or_ge j k with h3 | h3
            · exact HA.out j h3
            · have : j = k := by omega
              subst this; exact HP.out), hB2, hz2, h00⟩
          case measure => simp [intOf]; omega
      · have HE := hid (show tisB n x now = true by unfold tisB; rw [HAS.out, decide_eq_true (show n ≤ 50 by omega), allTo_iff.2 (fun i hi => hall i (by omega))]; rfl)
        clear hall hc hf hcA
        go_wp2
        go_ret
        exact ⟨ret_bool HE.out.symm, hb⟩
def numB (now floor : Int) : Bool := inB now 0 1000000 && inB floor 0 now
set_option maxRecDepth 100000 in
theorem numbers_any (now floor : Int) (a1 a2 a3 : Option Addr) (n1 c1 n2 c2 n c3 : Nat) (w : World) :
    Calls Tryz.prog 92 #[.agg #[.int .i64 now, .int .i64 floor, .slice a1 n1 c1, .slice a2 n2 c2, .slice a3 n c3]] w fun e w' => e = .returned (.bool (numB now floor)) ∧ Below w.heap.size w w' := by
  cases h1 : inB now 0 1000000 with
  | false =>
    have HE := hid (show numB now floor = false by unfold numB; rw [h1]; rfl)
    go_enter Tryz.func92, Tryz.ntmps92
    go_wp2_with (go_at_call 60; refine (within_any _ _ _ _).mono ?_; rintro e w1 ⟨rfl, rfl⟩; first | rw [h1] | skip)
    go_ret
    exact ⟨ret_bool HE.out.symm, below_alloc' _ _⟩
  | true =>
    have HE := hid (show numB now floor = inB floor 0 now by unfold numB; rw [h1]; rfl)
    go_enter Tryz.func92, Tryz.ntmps92
    go_wp2_with (go_at_call 60; refine (within_any _ _ _ _).mono ?_; rintro e w1 ⟨rfl, rfl⟩; first | rw [h1] | skip)
    go_ret
    exact ⟨ret_bool HE.out.symm, below_alloc' _ _⟩
end Go.Proofs.YtkecnaaacbckoaaGreat
