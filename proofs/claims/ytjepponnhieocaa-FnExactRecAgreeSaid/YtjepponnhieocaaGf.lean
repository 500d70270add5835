import Derived.Test.YtjepponnhieocaaGe
import Derived.Test.YtjepponnhieocaaT
namespace Go.Proofs.Ytjepponnhieocaa
open Go.RowKit
/-- what a flight is to be -/
def flB (n : Nat) (x : Nat → Ms) (of : Int) : Bool := decide (n ≤ 600) && allTo (fun i => msB (x i) of) n
theorem flB_no {n k : Nat} {x : Nat → Ms} {of : Int} (hk : k < n) (h : msB (x k) of = false) : flB n x of = false := by unfold flB; rw [allTo_no (p := fun i => msB (x i) of) hk h]; simp
theorem flB_yes {n : Nat} {x : Nat → Ms} {of : Int} (hn : n ≤ 600) (h : ∀ i, i < n → msB (x i) of = true) : flB n x of = true := by unfold flB; rw [allTo_iff.2 h]; simp [hn]
set_option maxRecDepth 100000 in
set_option maxHeartbeats 4000000 in
theorem flightFits_any (n : Nat) (x : Nat → Ms) (of : Int) (ad : Option Addr) (cap : Nat) (w : World) (lo hi : Nat) (hhi : hi ≤ w.heap.size) (hl : (n : Int) ≤ 8796093022208) (hf : ∀ i, i < n → MsFit (x i)) (hc : MssIn w lo hi ad n x) :
    Calls Try.prog 52 #[.slice ad n cap, .int .i64 of] w fun e w' => e = .returned (.bool (flB n x of)) ∧ Below w.heap.size w w' := by
  have HF := hid hf
  have HC := hid hc
  clear hf hc
  by_cases hn : n ≤ 600
  · go_enter Try.func52, Try.ntmps52
    go_wp2
    go_loopw [12] (fun i wr => ∃ k : Nat, k ≤ n ∧ i = .int .i64 k ∧ Below w.heap.size w wr ∧ Hid (∀ j, j < k → msB (x j) of = true)) (fun i _ => n - (intOf i).toNat)
    case atStart => exact ⟨0, Nat.zero_le _, rfl, Below.refl _ _, fun j hj => absurd hj (Nat.not_lt_zero _)⟩
    case round =>
      obtain ⟨k, hk, rfl, hb, HA⟩ := hrel
      by_cases hkn : k < n
      · obtain ⟨b, off, ah, ch, e, hlo, hbh, hcx, hs⟩ := HC.out k hkn
        have hs1 := hs.below hb hhi
        obtain ⟨d0, d1, d2, d3, d4, d5, d6, d7⟩ := hcx.below hb (by omega)
        have hfk := HF.out k hkn
        rw [e] at *
        have hbw : b < wr.heap.size := by have := hb.size; omega
        have hw1 : hi ≤ wr.heap.size := Nat.le_trans hhi hb.size
        clear hcx hs e
        cases h2 : msB (x k) of with
        | false =>
          have HE := hid (flB_no hkn h2)
          go_wp2_with (go_at_call 96; refine (implMessage_any (x k) of ah ch _ lo hi (by simp; omega) hfk (hs1.below (below_alloc _ _) hw1)).mono ?_; rintro e w1 ⟨rfl, hb1⟩; rw [h2])
          go_ret
          exact ⟨ret_bool HE.out.symm, (hb.alloc hb.size _).trans (hb1.mono (by simp; have := hb.size; omega))⟩
        | true =>
          have HN := hid h2
          go_wp2_with (go_at_call 96; refine (implMessage_any (x k) of ah ch _ lo hi (by simp; omega) hfk (hs1.below (below_alloc _ _) hw1)).mono ?_; rintro e w1 ⟨rfl, hb1⟩; rw [h2])
          go_roundw
          case rel => exact ⟨k + 1, by omega, by go_num, (hb.alloc hb.size _).trans (hb1.mono (by simp; have := hb.size; omega)), fun j hj => by
            by_cases e : j = k
            · rw [e]; exact HN.out
            · exact HA.out j (by omega)⟩
          case measure => simp [intOf]; omega
      · have HE := hid (flB_yes (of := of) hn (fun i hi => HA.out i (by omega)))
        go_wp2
        go_ret
        exact ⟨ret_bool HE.out.symm, hb⟩
  · have HE := hid (show flB n x of = false by simp [flB, hn])
    go_enter Try.func52, Try.ntmps52
    go_wp2
    go_ret
    exact ⟨ret_bool HE.out.symm, Below.refl _ _⟩
def ascF (n : Nat) (x : Nat → Sl) : Bool := allTo (fun i => i == 0 || decide ((x (i - 1)).bal < (x i).bal)) n
set_option maxRecDepth 100000 in
set_option maxHeartbeats 2000000 in
theorem fixBefore_any (a b : Sl) (w : World) : Calls Try.prog 98 #[slV a, slV b] w fun e w' => e = .returned (.bool (decide (a.bal < b.bal))) ∧ Below w.heap.size w w' := by
  go_enter Try.func98, Try.ntmps98
  go_wp2
  go_ret
  exact ⟨rfl, (below_alloc _ _).alloc (by simp) _⟩
set_option maxRecDepth 100000 in
set_option maxHeartbeats 2000000 in
theorem ascF_any (n : Nat) (x : Nat → Sl) (ad : Option Addr) (cap : Nat) (w : World) (lo hi : Nat) (hhi : hi ≤ w.heap.size) (hl : (n : Int) ≤ 140737488355328) (hc : SlsIn w lo hi ad n x) :
    Calls Try.prog 97 #[.slice ad n cap, .func (.func 98) #[] #[]] w fun e w' => e = .returned (.bool (ascF n x)) ∧ Below w.heap.size w w' := by
  go_enter Try.func97, Try.ntmps97
  go_wp2
  go_loopw [5] (fun i wr => ∃ k : Nat, 1 ≤ k ∧ (k ≤ n ∨ k = 1) ∧ i = .int .i64 k ∧ Hid (∀ j, j < k → (j == 0 || decide ((x (j - 1)).bal < (x j).bal)) = true) ∧ Below w.heap.size w wr) (fun i _ => n - (intOf i).toNat)
  case atStart => exact ⟨1, Nat.le_refl _, Or.inr rfl, rfl, fun j hj => (by have : j = 0 := by omega
                                                                            subst this; rfl), Below.refl _ _⟩
  case round =>
    obtain ⟨k, hk1, hk, rfl, HA, hb⟩ := hrel
    by_cases hkn : k < n
    · obtain ⟨m, rfl⟩ : ∃ m, k = m + 1 := ⟨k - 1, by omega⟩
      obtain ⟨b, off, rfl, hlo, hbh, hcx⟩ := hc (m + 1) hkn
      obtain ⟨b', off', e, _, hbh', hcm⟩ := hc m (by omega)
      cases e
      obtain ⟨d0, d1⟩ := hcx.below hb (by omega)
      obtain ⟨q0, q1⟩ := hcm.below hb (by omega)
      have hbw : b < wr.heap.size := by have := hb.size; omega
      have rd0 := subcell d0 hbw
      have rd1 := subcell d1 hbw
      have rp0 := subcell q0 hbw
      have rp1 := subcell q1 hbw
      have hne : Nonempty (GW wr) := ⟨⟨wr, Below.refl _ _⟩⟩
      have hkz : (m : Int) + 1 ≤ n := by omega
      clear hc hk hcx hcm d0 d1 q0 q1
      cases hlt : decide ((x m).bal < (x (m + 1)).bal) with
      | false =>
        have HE := hid (show ascF n x = false from allTo_no (p := fun i => i == 0 || decide ((x (i - 1)).bal < (x i).bal)) hkn (by simpa using hlt))
        go_wp2
        refine wp_region_grow (by kernel_rfl) (by kernel_rfl) ?_
        repeat (go_big_quiet_step ((go_at_call 98; go_must (exact grow_of (fixBefore_any (x m) (x (m + 1)) _)))))
        refine wpQuiet_nil ?_
        rintro w2 ⟨u, hu⟩
        have hw2 : Below wr.heap.size wr w2 := hu ▸ u.prop
        clear hu u
        go_wp2
        go_ret
        exact ⟨ret_bool HE.out.symm, hb.trans (hw2.mono hb.size)⟩
      | true =>
        have HN := hid (show (m + 1 == 0 || decide ((x (m + 1 - 1)).bal < (x (m + 1)).bal)) = true by simpa using hlt)
        go_wp2
        refine wp_region_grow (by kernel_rfl) (by kernel_rfl) ?_
        repeat (go_big_quiet_step ((go_at_call 98; go_must (exact grow_of (fixBefore_any (x m) (x (m + 1)) _)))))
        refine wpQuiet_nil ?_
        rintro w2 ⟨u, hu⟩
        have hw2 : Below wr.heap.size wr w2 := hu ▸ u.prop
        clear hu u
        go_wp2
        go_roundw
        case rel => exact ⟨m + 2, by omega, Or.inl (by omega), by go_num, fun j hj => (by
          rcases Nat.lt_or_ge j (m + 1) with h3 | h3
          · exact HA.out j h3
          · have : j = m + 1 := by omega
            subst this
            exact HN.out), hb.trans (hw2.mono hb.size)⟩
        case measure => simp [intOf]; omega
    · have HE := hid (show ascF n x = true from allTo_iff.2 (fun i hi => HA.out i (by omega)))
      clear hc
      go_wp2
      go_ret
      exact ⟨ret_bool HE.out.symm, hb⟩
def fx1 (x : Sl) : Bool := inB x.bal 1 60 && decide ((x.text.size : Int) ≤ 100)
def fxB (n : Nat) (x : Nat → Sl) : Bool := allTo (fun i => fx1 (x i)) n && ascF n x
theorem fxB_no {n k : Nat} {x : Nat → Sl} (hk : k < n) (h : fx1 (x k) = false) : fxB n x = false := by unfold fxB; rw [allTo_no (p := fun i => fx1 (x i)) hk h]; simp
theorem fxB_yes {n : Nat} {x : Nat → Sl} (h : ∀ i, i < n → fx1 (x i) = true) : fxB n x = ascF n x := by unfold fxB; rw [allTo_iff.2 h]; simp
set_option maxRecDepth 100000 in
set_option maxHeartbeats 2000000 in
theorem fixedFits_any (n : Nat) (x : Nat → Sl) (ad : Option Addr) (cap : Nat) (w : World) (lo hi : Nat) (hhi : hi ≤ w.heap.size) (hl : (n : Int) ≤ 8796093022208) (hf : ∀ i, i < n → SlFit (x i)) (hc : SlsIn w lo hi ad n x) :
    Calls Try.prog 53 #[.slice ad n cap] w fun e w' => e = .returned (.bool (fxB n x)) ∧ Below w.heap.size w w' := by
  have HF := hid hf
  have HC := hid hc
  clear hf hc
  go_enter Try.func53, Try.ntmps53
  go_wp2
  go_loopw [7] (fun i wr => ∃ k : Nat, k ≤ n ∧ i = .int .i64 k ∧ Below w.heap.size w wr ∧ Hid (∀ j, j < k → fx1 (x j) = true)) (fun i _ => n - (intOf i).toNat)
  case atStart => exact ⟨0, Nat.zero_le _, rfl, Below.refl _ _, fun j hj => absurd hj (Nat.not_lt_zero _)⟩
  case round =>
    obtain ⟨k, hk, rfl, hb, HA⟩ := hrel
    by_cases hkn : k < n
    · obtain ⟨b, off, e, hlo, hbh, hcx⟩ := HC.out k hkn
      obtain ⟨d0, d1⟩ := hcx.below hb (by omega)
      have hfk := (HF.out k hkn).t
      rw [e] at *
      have hbw : b < wr.heap.size := by have := hb.size; omega
      clear hcx e
      cases h1 : inB (x k).bal 1 60 with
      | false =>
        have HE := hid (fxB_no hkn (show fx1 (x k) = false by rw [fx1, h1]; rfl))
        go_wp2_with (go_at_call 80; refine (within_any (x k).bal 1 60 _).mono ?_; rintro e w1 ⟨rfl, rfl⟩; rw [h1])
        go_ret
        exact ⟨ret_bool HE.out.symm, hb.alloc hb.size _⟩
      | true =>
        by_cases h2 : ((x k).text.size : Int) ≤ 100
        · have HN := hid (show fx1 (x k) = true by rw [fx1, h1]; simpa using h2)
          go_wp2_with (go_at_call 80; refine (within_any (x k).bal 1 60 _).mono ?_; rintro e w1 ⟨rfl, rfl⟩; rw [h1])
          go_roundw
          case rel => exact ⟨k + 1, by omega, by go_num, hb.alloc hb.size _, fun j hj => by
            by_cases e : j = k
            · rw [e]; exact HN.out
            · exact HA.out j (by omega)⟩
          case measure => simp [intOf]; omega
        · have HE := hid (fxB_no hkn (show fx1 (x k) = false by rw [fx1, h1]; simpa using h2))
          go_wp2_with (go_at_call 80; refine (within_any (x k).bal 1 60 _).mono ?_; rintro e w1 ⟨rfl, rfl⟩; rw [h1])
          go_ret
          exact ⟨ret_bool HE.out.symm, hb.alloc hb.size _⟩
    · have HE := hid (fxB_yes (x := x) (n := n) (fun i hi => HA.out i (by omega)))
      have HL := hid hl
      go_wp2_with (go_at_call 97; refine (ascF_any n x ad cap wr lo hi (Nat.le_trans hhi hb.size) (by have := HL.out; omega) (HC.out.below hb hhi)).mono ?_; rintro e w1 ⟨rfl, hb1⟩)
      go_ret
      exact ⟨ret_bool HE.out.symm, hb.trans (hb1.mono hb.size)⟩
end Go.Proofs.Ytjepponnhieocaa
