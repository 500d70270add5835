import Derived.Test.YtjepponnhieocaaC
namespace Go.Proofs.Ytjepponnhieocaa
open Go.RowKit
/-- a slot is ok -/
def slB (x : Sl) : Bool := inB x.bal 0 1000000 && (decide ((x.text.size : Int) ≤ 100) && (decide (0 < x.bal) || x.text.toList.isEmpty))
set_option maxRecDepth 100000 in
set_option maxHeartbeats 1000000 in
theorem taken_any (x : Sl) (w : World) :
    Calls Try.prog 99 #[slV x] w fun e w' => e = .returned (.bool (decide (0 < x.bal))) ∧ Below w.heap.size w w' := by
  go_enter Try.func99, Try.ntmps99
  go_wp2
  go_ret
  exact ⟨by simp, below_alloc _ _⟩
set_option maxRecDepth 100000 in
set_option maxHeartbeats 1000000 in
theorem slotOk_any (x : Sl) (w : World) (hf : SlFit x) :
    Calls Try.prog 125 #[slV x] w fun e w' => e = .returned (.bool (slB x)) ∧ Below w.heap.size w w' := by
  obtain ⟨f1⟩ := hf
  obtain ⟨b1, h1⟩ : ∃ b, inB x.bal 0 1000000 = b := ⟨_, rfl⟩
  obtain ⟨b2, h2⟩ : ∃ b, decide (0 < x.bal) = b := ⟨_, rfl⟩
  obtain ⟨b3, h3⟩ : ∃ b, decide ((x.text.size : Int) ≤ 100) = b := ⟨_, rfl⟩
  have HB := hid (show slB x = (b1 && (b3 && (b2 || x.text.toList.isEmpty))) by rw [← h1, ← h2, ← h3]; rfl)
  cases b1
  · go_enter Try.func125, Try.ntmps125
    go_wp2_with (first | (go_at_call 80; refine (within_any _ _ _ _).mono ?_; rintro e w1 ⟨rfl, rfl⟩; rw [h1]))
    go_ret
    exact ⟨ret_bool HB.out.symm, below_alloc _ _⟩
  · cases b3
    · have h3' := of_decide_eq_false h3
      go_enter Try.func125, Try.ntmps125
      go_wp2_with (first | (go_at_call 80; refine (within_any _ _ _ _).mono ?_; rintro e w1 ⟨rfl, rfl⟩; rw [h1]))
      go_ret
      exact ⟨ret_bool HB.out.symm, below_alloc _ _⟩
    · have h3' := of_decide_eq_true h3
      cases b2
      · go_enter Try.func125, Try.ntmps125
        go_wp2_with (first | (go_at_call 80; refine (within_any _ _ _ _).mono ?_; rintro e w1 ⟨rfl, rfl⟩; rw [h1]) | (go_at_call 99; refine (taken_any x _).mono ?_; rintro e w1 ⟨rfl, hb1⟩; rw [h2]; have k1 := box_cell hb1 1; simp only [List.getElem?_toArray, List.getElem?_cons_succ, List.getElem?_cons_zero] at k1))
        go_ret
        exact ⟨ret_bool (by rw [HB.out]; simp), (below_alloc _ _).trans (hb1.mono (by simp))⟩
      · go_enter Try.func125, Try.ntmps125
        go_wp2_with (first | (go_at_call 80; refine (within_any _ _ _ _).mono ?_; rintro e w1 ⟨rfl, rfl⟩; rw [h1]) | (go_at_call 99; refine (taken_any x _).mono ?_; rintro e w1 ⟨rfl, hb1⟩; rw [h2]; have k1 := box_cell hb1 1; simp only [List.getElem?_toArray, List.getElem?_cons_succ, List.getElem?_cons_zero] at k1))
        go_ret
        exact ⟨ret_bool (by rw [HB.out]; simp), (below_alloc _ _).trans (hb1.mono (by simp))⟩
/-- slots are ok -/
def slsB (n : Nat) (x : Nat → Sl) : Bool := decide (n ≤ 60) && allTo (fun i => slB (x i)) n
theorem slsB_no {n k : Nat} {x : Nat → Sl} (hk : k < n) (h : slB (x k) = false) : slsB n x = false := by unfold slsB; rw [allTo_no (p := fun i => slB (x i)) hk h]; simp
theorem slsB_yes {n : Nat} {x : Nat → Sl} (hn : n ≤ 60) (h : ∀ i, i < n → slB (x i) = true) : slsB n x = true := by unfold slsB; rw [allTo_iff.2 h]; simp [hn]
set_option maxRecDepth 100000 in
set_option maxHeartbeats 1000000 in
theorem slotsOk_any (n : Nat) (x : Nat → Sl) (ad : Option Addr) (cap : Nat) (w : World) (lo hi : Nat) (hhi : hi ≤ w.heap.size) (hl : (n : Int) ≤ 8796093022208) (hf : ∀ i, i < n → SlFit (x i)) (hc : SlsIn w lo hi ad n x) :
    Calls Try.prog 113 #[.slice ad n cap] w fun e w' => e = .returned (.bool (slsB n x)) ∧ Below w.heap.size w w' := by
  by_cases hn : n ≤ 60
  · go_enter Try.func113, Try.ntmps113
    go_wp2
    go_loopw [10] (fun i wr => ∃ k : Nat, k ≤ n ∧ i = .int .i64 k ∧ Below w.heap.size w wr ∧ Hid (∀ j, j < k → slB (x j) = true)) (fun i _ => n - (intOf i).toNat)
    case atStart => exact ⟨0, Nat.zero_le _, rfl, Below.refl _ _, fun j hj => absurd hj (Nat.not_lt_zero _)⟩
    case round =>
      obtain ⟨k, hk, rfl, hb, hall⟩ := hrel
      by_cases hkn : k < n
      · obtain ⟨b, off, rfl, hlo, hbh, hcx⟩ := hc k hkn
        obtain ⟨d0, d1⟩ := hcx.below hb (by omega)
        have hfk := hf k hkn
        clear hc hf hcx
        cases hs : slB (x k)
        · have HE := hid (slsB_no hkn hs)
          go_wp2_with (go_at_call 125; refine (slotOk_any (x k) _ hfk).mono ?_; rintro e w1 ⟨rfl, hb1⟩; rw [hs])
          go_ret
          exact ⟨ret_bool HE.out.symm, (hb.alloc hb.size _).trans (hb1.mono (by simp; have := hb.size; omega))⟩
        · have HE := hid hs
          go_wp2_with (go_at_call 125; refine (slotOk_any (x k) _ hfk).mono ?_; rintro e w1 ⟨rfl, hb1⟩; rw [hs])
          go_roundw
          case rel => exact ⟨k + 1, by omega, by go_num, (hb.alloc hb.size _).trans (hb1.mono (by simp; have := hb.size; omega)), fun j hj => by
            by_cases e : j = k
            · rw [e]; exact HE.out
            · exact hall.out j (by omega)⟩
          case measure => simp [intOf]; omega
      · have : k = n := by omega
        subst this
        have HE := hid (slsB_yes hn hall.out)
        clear hc hf
        go_wp2
        go_ret
        exact ⟨ret_bool HE.out.symm, hb⟩
  · have HE := hid (show slsB n x = false by simp [slsB, hn])
    go_enter Try.func113, Try.ntmps113
    go_wp2
    go_ret
    exact ⟨ret_bool HE.out.symm, Below.refl _ _⟩
set_option maxRecDepth 100000 in
set_option maxHeartbeats 1000000 in
theorem slotsOkS_any (n : Nat) (x : Nat → Sl) (ad : Option Addr) (cap : Nat) (w : World) (lo hi : Nat) (hhi : hi ≤ w.heap.size) (hl : (n : Int) ≤ 8796093022208) (hf : ∀ i, i < n → SlFit (x i)) (hc : SlsIn w lo hi ad n x) :
    Calls Try.prog 91 #[.slice ad n cap] w fun e w' => e = .returned (.bool (slsB n x)) ∧ Below w.heap.size w w' := by
  by_cases hn : n ≤ 60
  · go_enter Try.func91, Try.ntmps91
    go_wp2
    go_loopw [3] (fun i wr => ∃ k : Nat, k ≤ n ∧ i = .int .i64 k ∧ wr = w ∧ Hid (∀ j, j < k → slB (x j) = true)) (fun i _ => n - (intOf i).toNat)
    case atStart => exact ⟨0, Nat.zero_le _, rfl, rfl, fun j hj => absurd hj (Nat.not_lt_zero _)⟩
    case round =>
      obtain ⟨k, hk, rfl, rfl, hall⟩ := hrel
      by_cases hkn : k < n
      · obtain ⟨b, off, rfl, hlo, hbh, hcx⟩ := hc k hkn
        obtain ⟨d0, d1⟩ := hcx
        obtain ⟨f1⟩ := hf k hkn
        clear hc hf
        have HN : Hid (slB (x k) = false → slsB n x = false) := hid fun h => slsB_no hkn h
        generalize hy : x k = y at *
        obtain ⟨b1, h1⟩ : ∃ b, inB y.bal 0 1000000 = b := ⟨_, rfl⟩
        have HB := hid (show slB y = (b1 && (decide ((y.text.size : Int) ≤ 100) && (decide (0 < y.bal) || y.text.toList.isEmpty))) by rw [← h1]; rfl)
        have HY := hid hy
        clear hy
        cases b1
        · go_wp2_with (go_at_call 30; refine (in_any _ _ _ _).mono ?_; rintro e w1 ⟨rfl, rfl⟩; rw [h1])
          go_ret
          exact ⟨ret_bool (HN.out (by rw [HB.out]; rfl)).symm, Below.refl _ _⟩
        · have h1' := inB_of h1
          by_cases h2 : (y.text.size : Int) ≤ 100
          · by_cases h3 : y.bal ≤ 0
            · cases h4 : y.text.toList.isEmpty
              · go_wp2_with (go_at_call 30; refine (in_any _ _ _ _).mono ?_; rintro e w1 ⟨rfl, rfl⟩; rw [h1])
                go_ret
                exact ⟨ret_bool (HN.out (by rw [HB.out]; simp [h2, h4]; omega)).symm, Below.refl _ _⟩
              · go_wp2_with (go_at_call 30; refine (in_any _ _ _ _).mono ?_; rintro e w1 ⟨rfl, rfl⟩; rw [h1])
                go_roundw
                case rel => exact ⟨k + 1, by omega, by go_num, by first | rfl | trivial, fun j hj => by
                  by_cases e : j = k
                  · rw [e, HY.out, HB.out]; simp [h2, h4]
                  · exact hall.out j (by omega)⟩
                case measure => simp [intOf]; omega
            · go_wp2_with (go_at_call 30; refine (in_any _ _ _ _).mono ?_; rintro e w1 ⟨rfl, rfl⟩; rw [h1])
              go_roundw
              case rel => exact ⟨k + 1, by omega, by go_num, by first | rfl | trivial, fun j hj => by
                by_cases e : j = k
                · rw [e, HY.out, HB.out]; simp [h2, show 0 < y.bal by omega]
                · exact hall.out j (by omega)⟩
              case measure => simp [intOf]; omega
          · go_wp2_with (go_at_call 30; refine (in_any _ _ _ _).mono ?_; rintro e w1 ⟨rfl, rfl⟩; rw [h1])
            go_ret
            exact ⟨ret_bool (HN.out (by rw [HB.out, decide_eq_false (show ¬ ((y.text.size : Int) ≤ 100) by omega)]; rfl)).symm, Below.refl _ _⟩
      · have : k = n := by omega
        subst this
        have HE := hid (slsB_yes hn hall.out)
        clear hc hf
        go_wp2
        go_ret
        exact ⟨ret_bool HE.out.symm, Below.refl _ _⟩
  · have HE := hid (show slsB n x = false by simp [slsB, hn])
    go_enter Try.func91, Try.ntmps91
    go_wp2
    go_ret
    exact ⟨ret_bool HE.out.symm, Below.refl _ _⟩
/-- a disk -/
structure Dk where
  pr : Int
  kn : Int
  n : Nat
  s : Nat → Sl
def dkHeld (d : Dk) : Bool := allTo (fun i => decide ((d.s i).bal ≤ d.pr)) d.n
def dkTaken (s : Nat → Sl) (k : Nat) : Bool := allTo (fun i => decide (0 < (s i).bal)) k
/-- a disk is ok -/
def dkB (d : Dk) : Bool := inB d.pr 0 1000000 && (slsB d.n d.s && (dkHeld d && (inB d.kn 0 d.n && dkTaken d.s d.kn.toNat)))
abbrev dkV (d : Dk) (ad : Option Addr) (cap : Nat) : Value := .agg #[.int .i64 d.pr, .int .i64 d.kn, .slice ad d.n cap]
structure DkFit (d : Dk) : Prop where
  n : (d.n : Int) ≤ 8796093022208
  s : ∀ i, i < d.n → SlFit (d.s i)
set_option maxRecDepth 100000 in
set_option maxHeartbeats 1000000 in
theorem held_any (d : Dk) (ad : Option Addr) (cap : Nat) (w : World) (lo hi : Nat) (hhi : hi ≤ w.heap.size) (hf : DkFit d) (hc : SlsIn w lo hi ad d.n d.s) :
    Calls Try.prog 119 #[dkV d ad cap] w fun e w' => e = .returned (.bool (dkHeld d)) ∧ Below w.heap.size w w' := by
  obtain ⟨f1, f2⟩ := hf
  go_enter Try.func119, Try.ntmps119
  go_wp2
  have hB0 := below_alloc w (.cells #[.int .i64 d.pr, .int .i64 d.kn, .slice ad d.n cap] 55)
  have H0 : ∀ i, (w.alloc (.cells #[.int .i64 d.pr, .int .i64 d.kn, .slice ad d.n cap] 55)).cell? ⟨w.heap.size, i, none⟩ = (#[Value.int .i64 d.pr, .int .i64 d.kn, .slice ad d.n cap])[i]? := fun i => World.cell?_alloc_new w _ _ i
  have hz0 : w.heap.size < (w.alloc (.cells #[.int .i64 d.pr, .int .i64 d.kn, .slice ad d.n cap] 55)).heap.size := by simp
  generalize w.alloc (.cells #[.int .i64 d.pr, .int .i64 d.kn, .slice ad d.n cap] 55) = W at *
  go_loopw [8] (fun i wr => ∃ k : Nat, k ≤ d.n ∧ i = .int .i64 k ∧ Below W.heap.size W wr ∧ Hid (∀ j, j < k → decide ((d.s j).bal ≤ d.pr) = true)) (fun i _ => d.n - (intOf i).toNat)
  case atStart => exact ⟨0, Nat.zero_le _, rfl, Below.refl _ _, fun j hj => absurd hj (Nat.not_lt_zero _)⟩
  case round =>
    obtain ⟨k, hk, rfl, hb, hall⟩ := hrel
    have HB := hid (hB0.trans (hb.mono hB0.size))
    by_cases hkn : k < d.n
    · obtain ⟨b, off, rfl, hlo, hbh, hcx⟩ := hc k hkn
      obtain ⟨d0, d1⟩ := hcx.below HB.out (by omega)
      have p0 := (hb.cell (p := ⟨w.heap.size, 0, none⟩) hz0).trans (H0 0)
      simp only [List.getElem?_toArray, List.getElem?_cons_zero] at p0
      have hbw : b < wr.heap.size := by have := HB.out.size; omega
      have hww : w.heap.size < wr.heap.size := by have := hb.size; omega
      clear hc f2 hcx H0
      by_cases hs : (d.s k).bal ≤ d.pr
      · have HE := hid hs
        go_wp2
        go_roundw
        case rel => exact ⟨k + 1, by omega, by go_num, hb.alloc hb.size _, fun j hj => by
            by_cases e : j = k
            · rw [e]; exact decide_eq_true HE.out
            · exact hall.out j (by omega)⟩
        case measure => simp [intOf]; omega
      · have HE := hid (show dkHeld d = false from allTo_no (p := fun i => decide ((d.s i).bal ≤ d.pr)) hkn (decide_eq_false hs))
        go_wp2
        go_ret
        exact ⟨ret_bool HE.out.symm, HB.out.alloc HB.out.size _⟩
    · have : k = d.n := by omega
      have HE := hid (show dkHeld d = true from allTo_iff.2 (fun i hi => hall.out i (by omega)))
      clear hc f2 H0
      go_wp2
      go_ret
      exact ⟨ret_bool HE.out.symm, HB.out⟩
set_option maxRecDepth 100000 in
set_option maxHeartbeats 1000000 in
theorem allTaken_any (n : Nat) (x : Nat → Sl) (ad : Option Addr) (cap : Nat) (w : World) (lo hi : Nat) (hhi : hi ≤ w.heap.size) (hl : (n : Int) ≤ 8796093022208) (hc : SlsIn w lo hi ad n x) :
    Calls Try.prog 120 #[.slice ad n cap] w fun e w' => e = .returned (.bool (dkTaken x n)) ∧ Below w.heap.size w w' := by
  go_enter Try.func120, Try.ntmps120
  go_wp2
  go_loopw [7] (fun i wr => ∃ k : Nat, k ≤ n ∧ i = .int .i64 k ∧ Below w.heap.size w wr ∧ Hid (∀ j, j < k → decide (0 < (x j).bal) = true)) (fun i _ => n - (intOf i).toNat)
  case atStart => exact ⟨0, Nat.zero_le _, rfl, Below.refl _ _, fun j hj => absurd hj (Nat.not_lt_zero _)⟩
  case round =>
    obtain ⟨k, hk, rfl, hb, hall⟩ := hrel
    by_cases hkn : k < n
    · obtain ⟨b, off, rfl, hlo, hbh, hcx⟩ := hc k hkn
      obtain ⟨d0, d1⟩ := hcx.below hb (by omega)
      clear hc hcx
      cases hs : decide (0 < (x k).bal)
      · have HE := hid (show dkTaken x n = false from allTo_no (p := fun i => decide (0 < (x i).bal)) hkn hs)
        go_wp2_with (go_at_call 99; refine (taken_any (x k) _).mono ?_; rintro e w1 ⟨rfl, hb1⟩; rw [hs])
        go_ret
        exact ⟨ret_bool HE.out.symm, (hb.alloc hb.size _).trans (hb1.mono (by simp; have := hb.size; omega))⟩
      · have HE := hid hs
        go_wp2_with (go_at_call 99; refine (taken_any (x k) _).mono ?_; rintro e w1 ⟨rfl, hb1⟩; rw [hs])
        go_roundw
        case rel => exact ⟨k + 1, by omega, by go_num, (hb.alloc hb.size _).trans (hb1.mono (by simp; have := hb.size; omega)), fun j hj => by
            by_cases e : j = k
            · rw [e]; exact HE.out
            · exact hall.out j (by omega)⟩
        case measure => simp [intOf]; omega
    · have : k = n := by omega
      subst this
      have HE := hid (show dkTaken x k = true from allTo_iff.2 (fun i hi => hall.out i hi))
      clear hc
      go_wp2
      go_ret
      exact ⟨ret_bool HE.out.symm, hb⟩
end Go.Proofs.Ytjepponnhieocaa
