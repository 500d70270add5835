import Derived.Test.YtjepponnhieocaaS
namespace Go.Proofs.Ytjepponnhieocaa
open Go.RowKit
def akOk (of : Int) (a : Ak) : Bool := inB a.ix 1 60 && numB of a.n a.s
/-- acks ascend by their indexes -/
def ascA (n : Nat) (x : Nat → Ak) : Bool := allTo (fun i => i == 0 || decide ((x (i - 1)).ix < (x i).ix)) n
def aksB (of : Int) (n : Nat) (x : Nat → Ak) : Bool := allTo (fun i => akOk of (x i)) n && ascA n x
theorem aksB_all (of : Int) (n : Nat) (x : Nat → Ak) : aksB of n x = allTo (fun i => inB (x i).ix 1 60 && numB of (x i).n (x i).s && (i == 0 || decide ((x (i - 1)).ix < (x i).ix))) n := by
  rw [Bool.eq_iff_iff, aksB, ascA, Bool.and_eq_true, allTo_iff, allTo_iff, allTo_iff]
  exact ⟨fun h i hi => by have h1 := h.1 i hi; have h2 := h.2 i hi; rw [akOk] at h1; rw [h1, h2]; rfl, fun h => ⟨fun i hi => by have := h i hi; rw [Bool.and_eq_true] at this; exact this.1, fun i hi => by have := h i hi; rw [Bool.and_eq_true] at this; exact this.2⟩⟩
set_option maxRecDepth 100000 in
set_option maxHeartbeats 2000000 in
theorem acksS_any (of : Int) (n : Nat) (x : Nat → Ak) (ad : Option Addr) (cap : Nat) (w : World) (lo hi : Nat) (hl : (n : Int) ≤ 140737488355328) (hf : ∀ i, i < n → ((x i).n : Int) ≤ 140737488355328) (hc : AksIn w lo hi ad n x) :
    Calls Try.prog 92 #[.slice ad n cap, .int .i64 of] w fun e w' => e = .returned (.bool (aksB of n x)) ∧ ∃ q, w' = w.drewN q := by
  rw [aksB_all]
  go_enter Try.func92, Try.ntmps92
  go_wp2
  go_loopw [5] (fun i wr => ∃ k : Nat, k ≤ n ∧ i = .int .i64 k ∧ Hid (∀ j, j < k → (inB (x j).ix 1 60 && numB of (x j).n (x j).s && (j == 0 || decide ((x (j - 1)).ix < (x j).ix))) = true) ∧ ∃ q, wr = w.drewN q) (fun i _ => n - (intOf i).toNat)
  case atStart => exact ⟨0, Nat.zero_le _, rfl, fun j hj => absurd hj (Nat.not_lt_zero _), 0, rfl⟩
  case round =>
    obtain ⟨k, hk, rfl, HA, q, hq⟩ := hrel
    have HQ := hid hq
    by_cases hkn : k < n
    · obtain ⟨b, off, ah, ch, rfl, hlo, hbh, hcx0, hs0⟩ := hc k hkn
      have hlk := hf k hkn
      have hcx : AkCells wr b (off + k * 2) (x k) ah ch := by rw [hq]; exact hcx0.below (B := b + 1) ⟨rfl, rfl, rfl, Nat.le_refl _, fun _ _ => rfl⟩ (by omega)
      have hs : IntsIn wr lo hi ah (x k).n (x k).s := by rw [hq]; exact hs0.drewN q
      obtain ⟨d0, d1⟩ := hcx
      clear hcx0 hs0
      cases hn : inB (x k).ix 1 60 with
      | false =>
        have HE := hid (allTo_no (p := fun i => inB (x i).ix 1 60 && numB of (x i).n (x i).s && (i == 0 || decide ((x (i - 1)).ix < (x i).ix))) hkn (by rw [hn]; rfl))
        clear hc hq hf
        go_wp2
        go_quiet (first | (go_at_call 30; go_must (exact Calls.quiet_of_same (in_any _ _ _ _))) | (go_at_call 90; go_must (exact Calls.quiet_of (numbersS_any of _ _ _ _ _ lo hi hlk (hs.drewN _)))))
        go_wp2
        go_ret
        exact ⟨ret_bool HE.out.symm, drewQ HQ.out⟩
      | true =>
        cases hm : numB of (x k).n (x k).s with
        | false =>
          have HE := hid (allTo_no (p := fun i => inB (x i).ix 1 60 && numB of (x i).n (x i).s && (i == 0 || decide ((x (i - 1)).ix < (x i).ix))) hkn (by rw [hn, hm]; rfl))
          clear hc hq hf
          go_wp2
          go_quiet (first | (go_at_call 30; go_must (exact Calls.quiet_of_same (in_any _ _ _ _))) | (go_at_call 90; go_must (exact Calls.quiet_of (numbersS_any of _ _ _ _ _ lo hi hlk (hs.drewN _)))))
          go_wp2
          go_ret
          exact ⟨ret_bool HE.out.symm, drewQ HQ.out⟩
        | true =>
        rcases Nat.eq_zero_or_pos k with rfl | hpos
        · clear hc hq hf
          have HN := hid (show (inB (x 0).ix 1 60 && numB of (x 0).n (x 0).s && ((0 : Nat) == 0 || decide ((x (0 - 1)).ix < (x 0).ix))) = true by rw [hn, hm]; rfl)
          simp only [Nat.zero_mul, Nat.add_zero] at d0 d1
          go_wp2
          go_quiet (first | (go_at_call 30; go_must (exact Calls.quiet_of_same (in_any _ _ _ _))) | (go_at_call 90; go_must (exact Calls.quiet_of (numbersS_any of _ _ _ _ _ lo hi hlk (hs.drewN _)))))
          go_wp2
          go_roundw
          case rel => exact ⟨1, by omega, by go_num, fun j hj => (by
            have : j = 0 := by omega
            subst this; exact HN.out), drewQ HQ.out⟩
          case measure => simp [intOf]; omega
        · obtain ⟨m, rfl⟩ : ∃ m, k = m + 1 := ⟨k - 1, by omega⟩
          obtain ⟨b', off', ah', ch', e, _, _, hcy0, _⟩ := hc m (by omega)
          cases e
          have hcy : AkCells wr b (off + m * 2) (x m) ah' ch' := by rw [hq]; exact hcy0.below (B := b + 1) ⟨rfl, rfl, rfl, Nat.le_refl _, fun _ _ => rfl⟩ (by omega)
          obtain ⟨y0, y1⟩ := hcy
          have hg : decide ((0 : Int) < ((m + 1 : Nat) : Int)) = true := decide_eq_true (by omega)
          clear hc hq hcy0 hf
          by_cases hlt : (x m).ix < (x (m + 1)).ix
          · have HN := hid (show (inB (x (m + 1)).ix 1 60 && numB of (x (m + 1)).n (x (m + 1)).s && (m + 1 == 0 || decide ((x ((m + 1) - 1)).ix < (x (m + 1)).ix))) = true by rw [hn, hm]; simp [hlt])
            go_wp2
            go_quiet (first | (go_at_call 30; go_must (exact Calls.quiet_of_same (in_any _ _ _ _))) | (go_at_call 90; go_must (exact Calls.quiet_of (numbersS_any of _ _ _ _ _ lo hi hlk (hs.drewN _)))))
            go_wp2
            go_roundw
            case rel => exact ⟨m + 2, by omega, by go_num, fun j hj => (by
              rcases Nat.lt_or_ge j (m + 1) with h3 | h3
              · exact HA.out j h3
              · have : j = m + 1 := by omega
                subst this; exact HN.out), drewQ HQ.out⟩
            case measure => simp [intOf]; omega
          · have HE := hid (allTo_no (p := fun i => inB (x i).ix 1 60 && numB of (x i).n (x i).s && (i == 0 || decide ((x (i - 1)).ix < (x i).ix))) hkn (by rw [hn, hm]; simp; omega))
            go_wp2
            go_quiet (first | (go_at_call 30; go_must (exact Calls.quiet_of_same (in_any _ _ _ _))) | (go_at_call 90; go_must (exact Calls.quiet_of (numbersS_any of _ _ _ _ _ lo hi hlk (hs.drewN _)))))
            go_wp2
            go_ret
            exact ⟨ret_bool HE.out.symm, drewQ HQ.out⟩
    · have HE := hid (allTo_iff.2 (fun i hi => HA.out i (by omega)) : allTo (fun i => inB (x i).ix 1 60 && numB of (x i).n (x i).s && (i == 0 || decide ((x (i - 1)).ix < (x i).ix))) n = true)
      clear hc hq hf
      go_wp2
      go_ret
      exact ⟨ret_bool HE.out.symm, ⟨q, HQ.out⟩⟩
set_option maxRecDepth 100000 in
set_option maxHeartbeats 2000000 in
theorem ackBefore_any (a b : Ak) (ad ad2 : Option Addr) (cap cap2 : Nat) (w : World) : Calls Try.prog 127 #[akV a ad cap, akV b ad2 cap2] w fun e w' => e = .returned (.bool (decide (a.ix < b.ix))) ∧ Below w.heap.size w w' := by
  go_enter Try.func127, Try.ntmps127
  go_wp2
  go_ret
  exact ⟨rfl, (below_alloc _ _).alloc (by simp) _⟩
set_option maxRecDepth 100000 in
set_option maxHeartbeats 2000000 in
theorem ascA_any (n : Nat) (x : Nat → Ak) (ad : Option Addr) (cap : Nat) (w : World) (lo hi : Nat) (hhi : hi ≤ w.heap.size) (hl : (n : Int) ≤ 140737488355328) (hc : AksIn w lo hi ad n x) :
    Calls Try.prog 126 #[.slice ad n cap, .func (.func 127) #[] #[]] w fun e w' => e = .returned (.bool (ascA n x)) ∧ Below w.heap.size w w' := by
  go_enter Try.func126, Try.ntmps126
  go_wp2
  go_loopw [5] (fun i wr => ∃ k : Nat, 1 ≤ k ∧ (k ≤ n ∨ k = 1) ∧ i = .int .i64 k ∧ Hid (∀ j, j < k → (j == 0 || decide ((x (j - 1)).ix < (x j).ix)) = true) ∧ Below w.heap.size w wr) (fun i _ => n - (intOf i).toNat)
  case atStart => exact ⟨1, Nat.le_refl _, Or.inr rfl, rfl, fun j hj => (by have : j = 0 := by omega
                                                                            subst this; rfl), Below.refl _ _⟩
  case round =>
    obtain ⟨k, hk1, hk, rfl, HA, hb⟩ := hrel
    by_cases hkn : k < n
    · obtain ⟨m, rfl⟩ : ∃ m, k = m + 1 := ⟨k - 1, by omega⟩
      obtain ⟨b, off, ah, ch, rfl, hlo, hbh, hcx, _⟩ := hc (m + 1) hkn
      obtain ⟨b', off', ah', ch', e, _, hbh', hcm, _⟩ := hc m (by omega)
      cases e
      obtain ⟨d0, d1⟩ := hcx.below hb (by omega)
      obtain ⟨q0, q1⟩ := hcm.below hb (by omega)
      have hbw : b < wr.heap.size := by have := hb.size; omega
      have rd0 := subcell d0 hbw
      have rd1 := subcell d1 hbw
      have rp0 := subcell q0 hbw
      have rp1 := subcell q1 hbw
      have hne : Nonempty (GW wr) := ⟨⟨wr, Below.refl _ _⟩⟩
      have hkz : (m : Int) + 1 ≤ n := by omega
      clear hc hk hcx hcm d0 d1 q0 q1
      cases hlt : decide ((x m).ix < (x (m + 1)).ix) with
      | false =>
        have HE := hid (show ascA n x = false from allTo_no (p := fun i => i == 0 || decide ((x (i - 1)).ix < (x i).ix)) hkn (by simpa using hlt))
        go_wp2
        refine wp_region_grow (by kernel_rfl) (by kernel_rfl) ?_
        repeat (go_big_quiet_step ((go_at_call 127; go_must (exact grow_of (ackBefore_any (x m) (x (m + 1)) _ _ _ _ _)))))
        refine wpQuiet_nil ?_
        rintro w2 ⟨u, hu⟩
        have hw2 : Below wr.heap.size wr w2 := hu ▸ u.prop
        clear hu u
        go_wp2
        go_ret
        exact ⟨ret_bool HE.out.symm, hb.trans (hw2.mono hb.size)⟩
      | true =>
        have HN := hid (show (m + 1 == 0 || decide ((x (m + 1 - 1)).ix < (x (m + 1)).ix)) = true by simpa using hlt)
        go_wp2
        refine wp_region_grow (by kernel_rfl) (by kernel_rfl) ?_
        repeat (go_big_quiet_step ((go_at_call 127; go_must (exact grow_of (ackBefore_any (x m) (x (m + 1)) _ _ _ _ _)))))
        refine wpQuiet_nil ?_
        rintro w2 ⟨u, hu⟩
        have hw2 : Below wr.heap.size wr w2 := hu ▸ u.prop
        clear hu u
        go_wp2
        go_roundw
        case rel => exact ⟨m + 2, by omega, Or.inl (by omega), by go_num, fun j hj => (by
          rcases Nat.lt_or_ge j (m + 1) with h3 | h3
          · exact HA.out j h3
          · have : j = m + 1 := by omega
            subst this; exact HN.out), hb.trans (hw2.mono hb.size)⟩
        case measure => simp [intOf]; omega
    · have HE := hid (show ascA n x = true from allTo_iff.2 (fun i hi => HA.out i (by omega)))
      clear hc hk
      go_wp2
      go_ret
      exact ⟨ret_bool HE.out.symm, hb⟩
set_option maxRecDepth 100000 in
set_option maxHeartbeats 2000000 in
theorem acks_any (of : Int) (n : Nat) (x : Nat → Ak) (ad : Option Addr) (cap : Nat) (w : World) (lo hi : Nat) (hhi : hi ≤ w.heap.size) (hl : (n : Int) ≤ 140737488355328) (hf : ∀ i, i < n → ((x i).n : Int) ≤ 140737488355328) (hc : AksIn w lo hi ad n x) :
    Calls Try.prog 114 #[.slice ad n cap, .int .i64 of] w fun e w' => e = .returned (.bool (aksB of n x)) ∧ Below w.heap.size w w' := by
  go_enter Try.func114, Try.ntmps114
  go_wp2
  go_loopw [9] (fun i wr => ∃ k : Nat, k ≤ n ∧ i = .int .i64 k ∧ Below w.heap.size w wr ∧ Hid (∀ j, j < k → akOk of (x j) = true)) (fun i _ => n - (intOf i).toNat)
  case atStart => exact ⟨0, Nat.zero_le _, rfl, Below.refl _ _, fun j hj => absurd hj (Nat.not_lt_zero _)⟩
  case round =>
    obtain ⟨k, hk, rfl, hb, HA⟩ := hrel
    by_cases hkn : k < n
    · obtain ⟨b, off, ah, ch, rfl, hlo, hbh, hcx, hs⟩ := hc k hkn
      obtain ⟨d0, d1⟩ := hcx.below hb (by omega)
      have hlk := hf k hkn
      have hs1 := hs.below hb hhi
      have hw1 : hi ≤ wr.heap.size := Nat.le_trans hhi hb.size
      clear hc hf hcx hs
      cases hn : inB (x k).ix 1 60 with
      | false =>
        have HE := hid (show aksB of n x = false by rw [aksB, allTo_no (p := fun i => akOk of (x i)) hkn (by rw [akOk, hn]; rfl)]; rfl)
        go_wp2_with (first | (go_at_call 80; refine (within_any _ _ _ _).mono ?_; rintro e w1 ⟨rfl, rfl⟩; rw [hn]))
        go_ret
        exact ⟨ret_bool HE.out.symm, hb.alloc hb.size _⟩
      | true =>
        cases hm : numB of (x k).n (x k).s with
        | false =>
          have HE := hid (show aksB of n x = false by rw [aksB, allTo_no (p := fun i => akOk of (x i)) hkn (by rw [akOk, hn, hm]; rfl)]; rfl)
          go_wp2_with (first | (go_at_call 80; refine (within_any _ _ _ _).mono ?_; rintro e w1 ⟨rfl, rfl⟩; rw [hn]) | (go_at_call 112; refine (numbers_any of _ _ _ _ _ lo hi hlk (hs1.alloc hw1 _)).mono ?_; rintro e w1 ⟨rfl, q, rfl⟩; rw [hm]))
          go_ret
          exact ⟨ret_bool HE.out.symm, (hb.alloc hb.size _).trans ⟨rfl, rfl, rfl, Nat.le_refl _, fun _ _ => rfl⟩⟩
        | true =>
          have HN := hid (show akOk of (x k) = true by rw [akOk, hn, hm]; rfl)
          go_wp2_with (first | (go_at_call 80; refine (within_any _ _ _ _).mono ?_; rintro e w1 ⟨rfl, rfl⟩; rw [hn]) | (go_at_call 112; refine (numbers_any of _ _ _ _ _ lo hi hlk (hs1.alloc hw1 _)).mono ?_; rintro e w1 ⟨rfl, q, rfl⟩; rw [hm]))
          go_roundw
          case rel => exact ⟨k + 1, by omega, by go_num, (hb.alloc hb.size _).trans ⟨rfl, rfl, rfl, Nat.le_refl _, fun _ _ => rfl⟩, fun j hj => by
            by_cases e : j = k
            · rw [e]; exact HN.out
            · exact HA.out j (by omega)⟩
          case measure => simp [intOf]; omega
    · have HE := hid (show aksB of n x = ascA n x by rw [aksB, allTo_iff.2 (fun i hi => HA.out i (by omega))]; rfl)
      have hcA := ascA_any n x ad cap wr lo hi (Nat.le_trans hhi hb.size) hl (hc.below hb hhi)
      clear hc hf
      go_wp2_with (go_at_call 126; refine hcA.mono ?_; rintro e w1 ⟨rfl, hb1⟩)
      go_ret
      exact ⟨ret_bool HE.out.symm, hb.trans (hb1.mono hb.size)⟩
end Go.Proofs.Ytjepponnhieocaa
