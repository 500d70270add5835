import Derived.Test.YtjepponnhieocaaT
namespace Go.Proofs.Ytjepponnhieocaa
open Go.RowKit
def hasB (n : Nat) (s : Nat → ByteArray) (a : ByteArray) : Bool := !allTo (fun i => !decide (s i = a)) n
theorem hasB_no {n : Nat} {s : Nat → ByteArray} {a : ByteArray} (h : ∀ i, i < n → ¬ s i = a) : hasB n s a = false := by
  unfold hasB
  rw [allTo_iff.2 (fun i hi => by simp [h i hi])]
  rfl
theorem hasB_yes {n : Nat} {s : Nat → ByteArray} {a : ByteArray} {k : Nat} (hk : k < n) (h : s k = a) : hasB n s a = true := by
  unfold hasB
  rw [allTo_no (p := fun i => !decide (s i = a)) hk (by simp [h])]
  rfl
theorem toList_inj0 {a b : ByteArray} (h : a.toList = b.toList) : a = b := by
  cases a with | mk a => cases b with | mk b =>
  have h2 : a.toList = b.toList := by simpa [ByteArray.toList_eq] using h
  exact congrArg ByteArray.mk (Array.ext' h2)
theorem beq_ne {a b : ByteArray} (h : ¬ a = b) : (a.toList == b.toList) = false := by
  cases hb : (a.toList == b.toList) with
  | false => rfl
  | true => exact absurd (toList_inj0 (by simpa using hb)) h
theorem beq_eq {a b : ByteArray} (h : a = b) : (a.toList == b.toList) = true := by rw [h]; simp
def wishB (s : Nat → ByteArray) (i : Nat) : Bool := inB (s i).size 1 100 && !hasB i s (s i)
def wishesB (n : Nat) (s : Nat → ByteArray) : Bool := decide (n ≤ 20) && allTo (wishB s) n
theorem wishesB_no {n k : Nat} {s : Nat → ByteArray} (hk : k < n) (h : wishB s k = false) : wishesB n s = false := by unfold wishesB; rw [allTo_no hk h]; simp
theorem wishesB_yes {n : Nat} {s : Nat → ByteArray} (hn : n ≤ 20) (h : ∀ i, i < n → wishB s i = true) : wishesB n s = true := by unfold wishesB; rw [allTo_iff.2 h]; simp [hn]
set_option maxRecDepth 100000 in
set_option maxHeartbeats 2000000 in
theorem index_any (n : Nat) (s : Nat → ByteArray) (ad : Option Addr) (cap : Nat) (a : ByteArray) (w : World) (lo hi : Nat) (hl : (n : Int) ≤ 140737488355328) (hc : StrsIn w lo hi ad n s) :
    Calls Try.prog 128 #[.slice ad n cap, .string a] w fun e w' => (∃ v : Int, e = .returned (.int .i64 v) ∧ decide (0 ≤ v) = hasB n s a) ∧ w' = w := by
  go_enter Try.func128, Try.ntmps128
  go_wp2
  go_loopw [8] (fun i wr => ∃ k : Nat, k ≤ n ∧ i = .int .i64 k ∧ wr = w ∧ Hid (∀ j, j < k → ¬ s j = a)) (fun i _ => n - (intOf i).toNat)
  case atStart => exact ⟨0, Nat.zero_le _, rfl, rfl, fun j hj => absurd hj (Nat.not_lt_zero _)⟩
  case round =>
    obtain ⟨k, hk, rfl, rfl, HA⟩ := hrel
    by_cases hkn : k < n
    · obtain ⟨b, off, rfl, hlo, hbh, hcx⟩ := hc k hkn
      clear hc
      by_cases he : s k = a
      · subst he
        have HE := hid (hasB_yes (a := s k) hkn rfl)
        go_wp2
        go_ret
        exact ⟨⟨_, rfl, by rw [HE.out]; simp⟩, rfl⟩
      · have hb := beq_ne (fun h => he h.symm)
        have hb2 := beq_ne he
        have HN := hid he
        clear he
        go_wp2
        go_roundw
        case rel => exact ⟨k + 1, by omega, by go_num, by first | trivial | rfl, fun j hj => (by
          rcases Nat.lt_or_ge j k with h3 | h3
          · exact HA.out j h3
          · have : j = k := by omega
            subst this; exact HN.out)⟩
        case measure => simp [intOf]; omega
    · have HE := hid (hasB_no (n := n) (s := s) (a := a) (fun i hi => HA.out i (by omega)))
      clear hc
      go_wp2
      go_ret
      exact ⟨⟨_, rfl, by rw [HE.out]; simp⟩, rfl⟩
set_option maxRecDepth 100000 in
set_option maxHeartbeats 2000000 in
theorem contains_any (n : Nat) (s : Nat → ByteArray) (ad : Option Addr) (cap : Nat) (a : ByteArray) (w : World) (lo hi : Nat) (hl : (n : Int) ≤ 140737488355328) (hc : StrsIn w lo hi ad n s) :
    Calls Try.prog 122 #[.slice ad n cap, .string a] w fun e w' => e = .returned (.bool (hasB n s a)) ∧ w' = w := by
  go_enter Try.func122, Try.ntmps122
  go_wp2_with fail
  refine (index_any n s ad cap a w lo hi hl hc).mono ?_
  rintro e w1 ⟨⟨v, rfl, hv⟩, rfl⟩
  have HV := hid hv
  clear hv
  go_wp2
  go_ret
  exact ⟨ret_bool HV.out, rfl⟩
set_option maxRecDepth 100000 in
set_option maxHeartbeats 2000000 in
theorem mayWish_any (a : ByteArray) (w : World) (_hl : (a.size : Int) ≤ 140737488355328) : Calls Try.prog 121 #[.string a] w fun e w' => e = .returned (.bool (inB a.size 1 100)) ∧ w' = w := by
  go_enter Try.func121, Try.ntmps121
  go_wp2_with (go_at_call 80; refine (within_any _ _ _ _).mono ?_; rintro e w1 ⟨rfl, rfl⟩)
  go_ret
  exact ⟨rfl, rfl⟩
theorem StrsIn.front {w : World} {lo hi : Nat} {ad : Option Addr} {n k : Nat} {x : Nat → ByteArray} (h : StrsIn w lo hi ad n x) (hk : k ≤ n) : StrsIn w lo hi ad k x := fun i hi' => h i (by omega)
set_option maxRecDepth 100000 in
set_option maxHeartbeats 2000000 in
theorem wishes_any (n : Nat) (s : Nat → ByteArray) (g o cap : Nat) (w : World) (lo hi : Nat) (hl : (n : Int) ≤ 8796093022208) (hcap : n ≤ cap) (hf : ∀ i, i < n → ((s i).size : Int) ≤ 140737488355328) (hc : StrsIn w lo hi (some ⟨g, o, none⟩) n s) :
    Calls Try.prog 111 #[.slice (some ⟨g, o, none⟩) n cap] w fun e w' => e = .returned (.bool (wishesB n s)) ∧ w' = w := by
  by_cases hn : n ≤ 20
  · go_enter Try.func111, Try.ntmps111
    go_wp2
    go_loopw [10] (fun i wr => ∃ k : Nat, k ≤ n ∧ i = .int .i64 k ∧ wr = w ∧ Hid (∀ j, j < k → wishB s j = true)) (fun i _ => n - (intOf i).toNat)
    case atStart => exact ⟨0, Nat.zero_le _, rfl, rfl, fun j hj => absurd hj (Nat.not_lt_zero _)⟩
    case round =>
      obtain ⟨k, hk, rfl, rfl, HA⟩ := hrel
      by_cases hkn : k < n
      · obtain ⟨b, off, e, hlo, hbh, hcx⟩ := hc k hkn
        cases e
        have hfk := hf k hkn
        have hF := hid (hc.front (k := k) (by omega))
        clear hc hf
        cases h1 : inB (s k).size 1 100 with
        | false =>
          have HE := hid (wishesB_no hkn (by rw [wishB, h1]; rfl))
          go_wp2_with (first | (go_at_call 121; refine (mayWish_any _ _ hfk).mono ?_; rintro e w1 ⟨rfl, rfl⟩; rw [h1]))
          go_ret
          exact ⟨ret_bool HE.out.symm, rfl⟩
        | true =>
          cases h2 : hasB k s (s k) with
          | true =>
            have HE := hid (wishesB_no hkn (by rw [wishB, h1, h2]; rfl))
            go_wp2_with (first | (go_at_call 121; refine (mayWish_any _ _ hfk).mono ?_; rintro e w1 ⟨rfl, rfl⟩; rw [h1]) | (go_at_call 122; refine (contains_any k s _ _ (s k) _ lo hi (by omega) hF.out).mono ?_; rintro e w1 ⟨rfl, rfl⟩; rw [h2]))
            go_ret
            exact ⟨ret_bool HE.out.symm, rfl⟩
          | false =>
            have HN := hid (show wishB s k = true by rw [wishB, h1, h2]; rfl)
            go_wp2_with (first | (go_at_call 121; refine (mayWish_any _ _ hfk).mono ?_; rintro e w1 ⟨rfl, rfl⟩; rw [h1]) | (go_at_call 122; refine (contains_any k s _ _ (s k) _ lo hi (by omega) hF.out).mono ?_; rintro e w1 ⟨rfl, rfl⟩; rw [h2]))
            go_roundw
            case rel => exact ⟨k + 1, by omega, by go_num, by first | trivial | rfl, fun j hj => (by
              by_cases e : j = k
              · rw [e]; exact HN.out
              · exact HA.out j (by omega))⟩
            case measure => simp [intOf]; omega
      · have HE := hid (wishesB_yes (s := s) hn (fun i hi => HA.out i (by omega)))
        clear hc hf
        go_wp2
        go_ret
        exact ⟨ret_bool HE.out.symm, rfl⟩
  · have HE := hid (show wishesB n s = false by simp [wishesB, hn])
    go_enter Try.func111, Try.ntmps111
    go_wp2
    go_ret
    exact ⟨ret_bool HE.out.symm, rfl⟩
set_option maxRecDepth 100000 in
set_option maxHeartbeats 2000000 in
theorem wishesS_any (n : Nat) (s : Nat → ByteArray) (ad : Option Addr) (cap : Nat) (w : World) (lo hi : Nat) (hl : (n : Int) ≤ 8796093022208) (hf : ∀ i, i < n → ((s i).size : Int) ≤ 140737488355328) (hc : StrsIn w lo hi ad n s) :
    Calls Try.prog 89 #[.slice ad n cap] w fun e w' => e = .returned (.bool (wishesB n s)) ∧ ∃ q, w' = w.drewN q := by
  by_cases hn : n ≤ 20
  · go_enter Try.func89, Try.ntmps89
    go_wp2
    go_loopw [3] (fun i wr => ∃ k : Nat, k ≤ n ∧ i = .int .i64 k ∧ Hid (∀ j, j < k → wishB s j = true) ∧ ∃ q, wr = w.drewN q) (fun i _ => n - (intOf i).toNat)
    case atStart => exact ⟨0, Nat.zero_le _, rfl, fun j hj => absurd hj (Nat.not_lt_zero _), 0, rfl⟩
    case round =>
      obtain ⟨k, hk, rfl, HA, q, hq⟩ := hrel
      have HQ := hid hq
      by_cases hkn : k < n
      · obtain ⟨b, off, rfl, hlo, hbh, hcx0⟩ := hc k hkn
        have hfk := hf k hkn
        have hcx : wr.cell? ⟨b, off + k, none⟩ = some (.string (s k)) := by rw [hq]; exact hcx0
        cases h1 : inB (s k).size 1 100 with
        | false =>
          have HE := hid (wishesB_no hkn (by rw [wishB, h1]; rfl))
          clear hc hf hq
          by_cases h3 : ((s k).size : Int) < 1
          · go_wp2
            go_ret
            exact ⟨ret_bool HE.out.symm, q, HQ.out⟩
          · have h4 : ¬ ((s k).size : Int) ≤ 100 := fun h => by rw [inB_yes ⟨by omega, h⟩] at h1; cases h1
            go_wp2
            go_ret
            exact ⟨ret_bool HE.out.symm, q, HQ.out⟩
        | true =>
          obtain ⟨h3, h4⟩ := inB_of h1
          have HF := hid (hc.front (k := k) (by omega))
          clear hc hf hq
          go_wp2
          go_loopw [4] (fun i w2 => ∃ j : Nat, j ≤ k ∧ i = .int .i64 j ∧ Hid (∀ m, m < j → ¬ s m = s k) ∧ ∃ q, w2 = w.drewN q) (fun i _ => k - (intOf i).toNat)
          case atStart => exact ⟨0, Nat.zero_le _, rfl, fun j hj => absurd hj (Nat.not_lt_zero _), q, HQ.out⟩
          case round =>
            obtain ⟨j, hj, rfl, HB, q2, hq2⟩ := hrel
            have HQ2 := hid hq2
            have hcz : wr.cell? ⟨b, off + k, none⟩ = some (.string (s k)) := by rw [hq2]; exact hcx0
            by_cases hjk : j < k
            · obtain ⟨b', off', e, _, _, hcj0⟩ := HF.out j hjk
              cases e
              have hcj : wr.cell? ⟨b, off + j, none⟩ = some (.string (s j)) := by rw [hq2]; exact hcj0
              clear hq2 hcj0 hcx hcx0
              by_cases he : s j = s k
              · have hb := beq_eq he
                have HE := hid (wishesB_no hkn (by rw [wishB, hasB_yes hjk he]; simp))
                have HN := hid he
                clear he
                go_wp2
                go_quiet (fail)
                go_wp2
                go_ret
                exact ⟨ret_bool HE.out.symm, drewQ HQ2.out⟩
              · have hb := beq_ne he
                have HN := hid he
                clear he
                go_wp2
                go_quiet (fail)
                go_wp2
                go_roundw
                case rel => exact ⟨j + 1, by omega, by go_num, fun m hm => (by
                  by_cases e : m = j
                  · rw [e]; exact HN.out
                  · exact HB.out m (by omega)), drewQ HQ2.out⟩
                case measure => simp [intOf]; omega
            · have HN := hid (show wishB s k = true by rw [wishB, h1, hasB_no (fun i hi => HB.out i (by omega))]; rfl)
              clear hq2 hcx hcx0
              go_wp2
              go_roundw
              case rel => exact ⟨k + 1, by omega, by go_num, fun m hm => (by
                by_cases e : m = k
                · rw [e]; exact HN.out
                · exact HA.out m (by omega)), q2, HQ2.out⟩
              case measure => simp [intOf]; omega
      · have HE := hid (wishesB_yes (s := s) hn (fun i hi => HA.out i (by omega)))
        clear hc hf hq
        go_wp2
        go_ret
        exact ⟨ret_bool HE.out.symm, q, HQ.out⟩
  · have HE := hid (show wishesB n s = false by simp [wishesB, hn])
    go_enter Try.func89, Try.ntmps89
    go_wp2
    go_ret
    exact ⟨ret_bool HE.out.symm, 0, rfl⟩
end Go.Proofs.Ytjepponnhieocaa
