import Derived.Test.YtjepponnhieocaaD
namespace Go.Proofs.Ytjepponnhieocaa
open Go.RowKit
theorem box3 {w w1 : World} {v0 v1 v2 : Value} {t : TypeId} (hb : Below (w.alloc (.cells #[v0, v1, v2] t)).heap.size (w.alloc (.cells #[v0, v1, v2] t)) w1) :
    w1.cell? ⟨w.heap.size, 0, none⟩ = some v0 ∧ w1.cell? ⟨w.heap.size, 1, none⟩ = some v1 ∧ w1.cell? ⟨w.heap.size, 2, none⟩ = some v2 := ⟨box_cell hb 0, box_cell hb 1, box_cell hb 2⟩
theorem SlsIn.front {w : World} {lo hi : Nat} {ad : Option Addr} {n k : Nat} {x : Nat → Sl} (h : SlsIn w lo hi ad n x) (hk : k ≤ n) : SlsIn w lo hi ad k x := fun i hi' => h i (by omega)
set_option maxRecDepth 100000 in
set_option maxHeartbeats 2000000 in
theorem implDisk_any (d : Dk) (g o cap : Nat) (w : World) (lo hi : Nat) (hhi : hi ≤ w.heap.size) (hf : DkFit d) (hcap : d.n ≤ cap) (hc : SlsIn w lo hi (some ⟨g, o, none⟩) d.n d.s) :
    Calls Try.prog 109 #[dkV d (some ⟨g, o, none⟩) cap] w fun e w' => e = .returned (.bool (dkB d)) ∧ Below w.heap.size w w' := by
  obtain ⟨b1, h1⟩ : ∃ b, inB d.pr 0 1000000 = b := ⟨_, rfl⟩
  obtain ⟨b2, h2⟩ : ∃ b, slsB d.n d.s = b := ⟨_, rfl⟩
  obtain ⟨b3, h3⟩ : ∃ b, dkHeld d = b := ⟨_, rfl⟩
  obtain ⟨b4, h4⟩ : ∃ b, inB d.kn 0 d.n = b := ⟨_, rfl⟩
  obtain ⟨b5, h5⟩ : ∃ b, dkTaken d.s d.kn.toNat = b := ⟨_, rfl⟩
  have HB := hid (show dkB d = (b1 && (b2 && (b3 && (b4 && b5)))) by rw [← h1, ← h2, ← h3, ← h4, ← h5]; rfl)
  have hc1 := hc.below (below_alloc w (.cells #[.int .i64 d.pr, .int .i64 d.kn, .slice (some ⟨g, o, none⟩) d.n cap] 55)) hhi
  obtain ⟨f1, f2⟩ := hf
  clear hc
  cases b1
  · go_enter Try.func109, Try.ntmps109
    go_wp2_with (first | (go_at_call 80; refine (within_any _ _ _ _).mono ?_; rintro e w1 ⟨rfl, rfl⟩; first | rw [h1] | rw [h4]))
    go_ret
    exact ⟨ret_bool HB.out.symm, below_alloc _ _⟩
  have hS := slotsOk_any d.n d.s _ cap _ lo hi (by simp; omega) f1 f2 hc1
  rw [h2] at hS
  cases b2
  · go_enter Try.func109, Try.ntmps109
    go_wp2_with (first | (go_at_call 80; refine (within_any _ _ _ _).mono ?_; rintro e w1 ⟨rfl, rfl⟩; first | rw [h1] | rw [h4]) | (go_at_call 113; refine hS.mono ?_; rintro e w1 ⟨rfl, hb1⟩; obtain ⟨p0, p1, p2⟩ := box3 hb1; have hz1 := hb1.size; simp only [World.size_alloc] at hz1))
    go_ret
    exact ⟨ret_bool HB.out.symm, (below_alloc _ _).trans (hb1.mono (by simp))⟩
  cases b3
  · go_enter Try.func109, Try.ntmps109
    go_wp2_with (first | (go_at_call 80; refine (within_any _ _ _ _).mono ?_; rintro e w1 ⟨rfl, rfl⟩; first | rw [h1] | rw [h4]) | (go_at_call 113; refine hS.mono ?_; rintro e w1 ⟨rfl, hb1⟩; obtain ⟨p0, p1, p2⟩ := box3 hb1; have hz1 := hb1.size; simp only [World.size_alloc] at hz1) | (go_at_call 119; refine (held_any d _ cap _ lo hi (by omega) ⟨f1, f2⟩ (hc1.below hb1 (by simp; omega))).mono ?_; rintro e w2 ⟨rfl, hb2⟩; rw [h3]; have hz2 := hb2.size; have hb12 := hb1.trans (hb2.mono hb1.size); clear p0 p1 p2 hb1 hb2; obtain ⟨p0, p1, p2⟩ := box3 hb12))
    go_ret
    exact ⟨ret_bool HB.out.symm, (below_alloc _ _).trans (hb12.mono (by simp))⟩
  cases b4
  · go_enter Try.func109, Try.ntmps109
    go_wp2_with (first | (go_at_call 80; refine (within_any _ _ _ _).mono ?_; rintro e w1 ⟨rfl, rfl⟩; first | rw [h1] | rw [h4]) | (go_at_call 113; refine hS.mono ?_; rintro e w1 ⟨rfl, hb1⟩; obtain ⟨p0, p1, p2⟩ := box3 hb1; have hz1 := hb1.size; simp only [World.size_alloc] at hz1) | (go_at_call 119; refine (held_any d _ cap _ lo hi (by omega) ⟨f1, f2⟩ (hc1.below hb1 (by simp; omega))).mono ?_; rintro e w2 ⟨rfl, hb2⟩; rw [h3]; have hz2 := hb2.size; have hb12 := hb1.trans (hb2.mono hb1.size); clear p0 p1 p2 hb1 hb2; obtain ⟨p0, p1, p2⟩ := box3 hb12))
    go_ret
    exact ⟨ret_bool HB.out.symm, (below_alloc _ _).trans (hb12.mono (by simp))⟩
  obtain ⟨pr, kn, n, s⟩ := d
  dsimp only at *
  obtain ⟨k4, k5⟩ := inB_of h4
  obtain ⟨k, rfl⟩ : ∃ k : Nat, kn = k := ⟨kn.toNat, by omega⟩
  simp only [Int.toNat_natCast] at h5
  have hkn : k ≤ n := by omega
  show Calls Try.prog 109 #[.agg #[.int .i64 pr, .int .i64 k, .slice (some ⟨g, o, none⟩) n cap]] w _
  go_enter Try.func109, Try.ntmps109
  go_wp2_with (first | (go_at_call 80; refine (within_any _ _ _ _).mono ?_; rintro e w1 ⟨rfl, rfl⟩; first | rw [h1] | rw [h4]) | (go_at_call 113; refine hS.mono ?_; rintro e w1 ⟨rfl, hb1⟩; obtain ⟨p0, p1, p2⟩ := box3 hb1; have hz1 := hb1.size; simp only [World.size_alloc] at hz1) | (go_at_call 119; refine (held_any ⟨pr, k, n, s⟩ _ cap _ lo hi (by omega) ⟨f1, f2⟩ (hc1.below hb1 (by simp; omega))).mono ?_; rintro e w2 ⟨rfl, hb2⟩; rw [h3]; have hz2 := hb2.size; have hb12 := hb1.trans (hb2.mono hb1.size); clear p0 p1 p2 hb1 hb2; obtain ⟨p0, p1, p2⟩ := box3 hb12) | (go_at_call 120; refine (allTaken_any k s _ cap _ lo hi (by omega) (by omega) ((hc1.below hb12 (by simp; omega)).front hkn)).mono ?_; rintro e w4 ⟨rfl, hb4⟩; rw [h5]))
  go_ret
  exact ⟨ret_bool HB.out.symm, (below_alloc _ _).trans ((hb12.trans (hb4.mono hb12.size)).mono (by simp))⟩
theorem slB_nn {x : Sl} (h : slB x = true) : 0 ≤ x.bal := by
  unfold slB at h
  rw [Bool.and_eq_true] at h
  exact (inB_of h.1).1
def dkAll (d : Dk) (i : Nat) : Bool := decide ((d.s i).bal ≤ d.pr) && (decide (d.kn ≤ i) || decide (0 < (d.s i).bal))
theorem dkB_all {d : Dk} (h1 : inB d.pr 0 1000000 = true) (h2 : slsB d.n d.s = true) (h4 : inB d.kn 0 d.n = true) : dkB d = allTo (dkAll d) d.n := by
  have hk := inB_of h4
  rw [dkB, h1, h2, h4]
  simp only [Bool.true_and]
  rw [Bool.eq_iff_iff, Bool.and_eq_true, dkHeld, dkTaken, allTo_iff, allTo_iff, allTo_iff]
  constructor
  · rintro ⟨a, b⟩ i hi
    rw [dkAll, a i hi, Bool.true_and, Bool.or_eq_true, decide_eq_true_eq]
    by_cases e : d.kn ≤ i
    · exact Or.inl e
    · exact Or.inr (b i (by omega))
  · intro a
    refine ⟨fun i hi => ?_, fun i hi => ?_⟩
    · have := a i hi
      rw [dkAll, Bool.and_eq_true] at this
      exact this.1
    · have := a i (by omega)
      rw [dkAll, Bool.and_eq_true, Bool.or_eq_true, decide_eq_true_eq, decide_eq_true_eq] at this
      rcases this.2 with h | h
      · omega
      · exact h
set_option maxRecDepth 100000 in
set_option maxHeartbeats 2000000 in
theorem specDisk_any (d : Dk) (ad : Option Addr) (cap : Nat) (w : World) (lo hi : Nat) (hhi : hi ≤ w.heap.size) (hf : DkFit d) (hc : SlsIn w lo hi ad d.n d.s) :
    Calls Try.prog 88 #[dkV d ad cap] w fun e w' => e = .returned (.bool (dkB d)) ∧ Below w.heap.size w w' := by
  obtain ⟨b1, h1⟩ : ∃ b, inB d.pr 0 1000000 = b := ⟨_, rfl⟩
  obtain ⟨b2, h2⟩ : ∃ b, slsB d.n d.s = b := ⟨_, rfl⟩
  obtain ⟨b4, h4⟩ : ∃ b, inB d.kn 0 d.n = b := ⟨_, rfl⟩
  have HB := hid (show dkB d = (b1 && (b2 && (dkHeld d && (b4 && dkTaken d.s d.kn.toNat)))) by rw [← h1, ← h2, ← h4]; rfl)
  have hB0 := below_alloc w (.cells #[.int .i64 d.pr, .int .i64 d.kn, .slice ad d.n cap] 55)
  have hc1 := hc.below hB0 hhi
  obtain ⟨f1, f2⟩ := hf
  clear hc
  cases b1
  · go_enter Try.func88, Try.ntmps88
    go_wp2_with (first | (go_at_call 30; refine (in_any _ _ _ _).mono ?_; rintro e w1 ⟨rfl, rfl⟩; first | rw [h1] | rw [h4]))
    go_ret
    exact ⟨ret_bool HB.out.symm, below_alloc _ _⟩
  have hS := slotsOkS_any d.n d.s _ cap _ lo hi (by simp; omega) f1 f2 hc1
  rw [h2] at hS
  cases b2
  · go_enter Try.func88, Try.ntmps88
    go_wp2_with (first | (go_at_call 30; refine (in_any _ _ _ _).mono ?_; rintro e w1 ⟨rfl, rfl⟩; first | rw [h1] | rw [h4]) | (go_at_call 91; refine hS.mono ?_; rintro e w1 ⟨rfl, hb1⟩; obtain ⟨p0, p1, p2⟩ := box3 hb1; have hz1 := hb1.size; simp only [World.size_alloc] at hz1))
    go_ret
    exact ⟨ret_bool HB.out.symm, (below_alloc _ _).trans (hb1.mono (by simp))⟩
  cases b4
  · go_enter Try.func88, Try.ntmps88
    go_wp2_with (first | (go_at_call 30; refine (in_any _ _ _ _).mono ?_; rintro e w1 ⟨rfl, rfl⟩; first | rw [h1] | rw [h4]) | (go_at_call 91; refine hS.mono ?_; rintro e w1 ⟨rfl, hb1⟩; obtain ⟨p0, p1, p2⟩ := box3 hb1; have hz1 := hb1.size; simp only [World.size_alloc] at hz1))
    go_ret
    exact ⟨ret_bool (by rw [HB.out]; simp), (below_alloc _ _).trans (hb1.mono (by simp))⟩
  have HA := hid (dkB_all h1 h2 h4)
  go_enter Try.func88, Try.ntmps88
  go_wp2_with (first | (go_at_call 30; refine (in_any _ _ _ _).mono ?_; rintro e w1 ⟨rfl, rfl⟩; first | rw [h1] | rw [h4]) | (go_at_call 91; refine hS.mono ?_; rintro e w1 ⟨rfl, hb1⟩; obtain ⟨p0, p1, p2⟩ := box3 hb1; have hz1 := hb1.size; simp only [World.size_alloc] at hz1))
  have hB1 : Below w.heap.size w w1 := hB0.trans (hb1.mono hB0.size)
  have hc2 := hc1.below hb1 (by simp; omega)
  have hnn : ∀ i, i < d.n → 0 ≤ (d.s i).bal := fun i hi => by
    rw [slsB, Bool.and_eq_true] at h2
    exact slB_nn (allTo_iff.1 h2.2 i hi)
  clear hS hc1 hb1 hB0 h2 f2
  go_loopw [3] (fun i wr => ∃ k : Nat, k ≤ d.n ∧ i = .int .i64 k ∧ (∃ q, wr = w1.drewN q) ∧ Hid (∀ j, j < k → dkAll d j = true)) (fun i _ => d.n - (intOf i).toNat)
  case atStart => exact ⟨0, Nat.zero_le _, rfl, ⟨0, rfl⟩, fun j hj => absurd hj (Nat.not_lt_zero _)⟩
  case round =>
    obtain ⟨k, hk, rfl, ⟨q, rfl⟩, hall⟩ := hrel
    by_cases hkn : k < d.n
    · obtain ⟨b, off, rfl, hlo, hbh, hcx⟩ := hc2 k hkn
      obtain ⟨d0, d1⟩ := hcx
      have hnk := hnn k hkn
      have HN : Hid (dkAll d k = false → dkB d = false) := hid fun h => by rw [HA.out]; exact allTo_no hkn h
      clear hc2 hnn
      by_cases e1 : (d.s k).bal ≤ d.pr
      · by_cases e2 : d.kn ≤ k
        · have HE := hid (show dkAll d k = true by rw [dkAll, decide_eq_true e1, decide_eq_true e2]; rfl)
          go_wp2
          refine wp_region_quiet_lit (by kernel_rfl) (by kernel_rfl) ?_
          repeat (refine wpQuiet_step (fun K hK => ?_); go_simp; (try rw [if_neg (show ¬ ((k : Int) < d.kn) by omega)]); refine hK _ ?_; clear hK K)
          refine wpQuiet_nil ?_
          rintro _ ⟨nq, rfl⟩
          go_wp2
          go_roundw
          case rel => exact ⟨k + 1, by omega, by go_num, ⟨_, rfl⟩, fun j hj => by
            by_cases e : j = k
            · rw [e]; exact HE.out
            · exact hall.out j (by omega)⟩
          case measure => simp [intOf]; omega
        · by_cases e3 : (d.s k).bal ≤ 0
          · have g3 : ((d.s k).bal == 0) = true := by simp; omega
            have HE := hid (show dkAll d k = false by rw [dkAll, decide_eq_false e2, decide_eq_false (show ¬ (0 < (d.s k).bal) by omega)]; simp)
            go_wp2
            go_quiet (fail)
            go_wp2
            go_ret
            exact ⟨ret_bool (HN.out HE.out).symm, hB1.trans ⟨rfl, rfl, rfl, Nat.le_refl _, fun _ _ => rfl⟩⟩
          · have g3 : ((d.s k).bal == 0) = false := by simp; omega
            have HE := hid (show dkAll d k = true by rw [dkAll, decide_eq_true e1, decide_eq_true (show 0 < (d.s k).bal by omega)]; simp)
            go_wp2
            go_quiet (fail)
            go_wp2
            go_roundw
            case rel => exact ⟨k + 1, by omega, by go_num, ⟨_, rfl⟩, fun j hj => by
              by_cases e : j = k
              · rw [e]; exact HE.out
              · exact hall.out j (by omega)⟩
            case measure => simp [intOf]; omega
      · have HE := hid (show dkAll d k = false by rw [dkAll, decide_eq_false e1]; rfl)
        go_wp2
        go_quiet (fail)
        go_wp2
        go_ret
        exact ⟨ret_bool (HN.out HE.out).symm, hB1.trans ⟨rfl, rfl, rfl, Nat.le_refl _, fun _ _ => rfl⟩⟩
    · have : k = d.n := by omega
      have HE := hid (show dkB d = true by rw [HA.out]; exact allTo_iff.2 (fun i hi => hall.out i (by omega)))
      clear hc2 hnn
      go_wp2
      go_ret
      exact ⟨ret_bool HE.out.symm, hB1.trans ⟨rfl, rfl, rfl, Nat.le_refl _, fun _ _ => rfl⟩⟩
end Go.Proofs.Ytjepponnhieocaa
