import Derived.Test.YtcmimbohmninkaaGreatDoorPa
import Derived.Test.YtcmimbohmninkaaGreatDoorLg
namespace Go.Proofs.YtcmimbohmninkaaGreatDoor
open Go.RowKit
/-- what a hexadecimal digit stands for -/
def hexZ (x : Nat) : Int := if 48 ≤ x ∧ x ≤ 57 then (x : Int) - 48 else if 97 ≤ x ∧ x ≤ 102 then (x : Int) - 87 else -1
set_option maxRecDepth 100000 in
set_option maxHeartbeats 1000000 in
theorem hexN_any (x : Nat) (hx : x < 256) (w : World) : Calls Tryz.prog 17 #[.int .u8 (x : Int)] w fun e w' => e = .returned (.int .i64 (hexZ x)) ∧ w' = w := by
  by_cases h1 : 48 ≤ x ∧ x ≤ 57
  · have HE := hid (show hexZ x = (x : Int) - 48 from if_pos h1)
    obtain ⟨h1a, h1b⟩ := h1
    go_enter Tryz.func17, Tryz.ntmps17
    go_wp2
    go_ret
    exact ⟨ret_int (by rw [HE.out]), rfl⟩
  · by_cases h2 : 97 ≤ x ∧ x ≤ 102
    · have HE := hid (show hexZ x = (x : Int) - 87 by unfold hexZ; rw [if_neg h1, if_pos h2])
      obtain ⟨h2a, h2b⟩ := h2
      have h3 : ¬ ((x : Int) ≤ 57) := by omega
      clear h1
      go_enter Tryz.func17, Tryz.ntmps17
      go_wp2
      go_ret
      exact ⟨ret_int (by rw [HE.out]; omega), rfl⟩
    · have HE := hid (show hexZ x = -1 by unfold hexZ; rw [if_neg h1, if_neg h2])
      by_cases h3 : 48 ≤ x
      · have h4 : ¬ ((x : Int) ≤ 57) := by omega
        by_cases h5 : 97 ≤ x
        · have h6 : ¬ ((x : Int) ≤ 102) := by omega
          clear h1 h2
          go_enter Tryz.func17, Tryz.ntmps17
          go_wp2
          go_ret
          exact ⟨ret_int HE.out.symm, rfl⟩
        · clear h1 h2
          go_enter Tryz.func17, Tryz.ntmps17
          go_wp2
          go_ret
          exact ⟨ret_int HE.out.symm, rfl⟩
      · clear h1 h2
        have h5 : ¬ ((97 : Int) ≤ x) := by omega
        go_enter Tryz.func17, Tryz.ntmps17
        go_wp2
        go_ret
        exact ⟨ret_int HE.out.symm, rfl⟩
theorem toListNe {a b : ByteArray} (h : ¬ a = b) : (a.toList == b.toList) = false := by
  cases hb : (a.toList == b.toList) with
  | false => rfl
  | true => exact absurd (toList_inj0 (by simpa using hb)) h
theorem dS_len (n : Nat) : (dS n).size = Lib.nDigits n := by
  have : (dS n).size = (Lib.decDigits n).length := by simp [dS, ByteArray.size]
  rw [this, Lib.decDigits_length]
theorem nDigits_le7 {n : Nat} (h : n ≤ 9999999) : Lib.nDigits n ≤ 7 := by
  rcases Nat.lt_or_ge (Lib.nDigits n) 8 with h1 | h1
  · omega
  · exfalso
    by_cases h0 : n < 10
    · rw [Lib.nDigits_small h0] at h1; omega
    · have key : ∀ k u, k + 1 ≤ Lib.nDigits u → 0 < k → 10 ^ k ≤ u := by
        intro k
        induction k with
        | zero => intro u _ hk; omega
        | succ k ih =>
          intro u hu _
          by_cases hs : u < 10
          · rw [Lib.nDigits_small hs] at hu; omega
          · rw [Lib.nDigits_big hs] at hu
            by_cases hk0 : k = 0
            · subst hk0; simp; omega
            · have := ih (u / 10) (by omega) (by omega)
              rw [Nat.pow_succ]
              omega
      have := key 7 n (by omega) (by omega)
      omega
theorem dS_at (n k : Nat) (hk : k < (dS n).size) : (byteAt (dS n) k).toNat = 48 + n / 10 ^ ((dS n).size - 1 - k) % 10 := by
  rw [dS_len] at hk ⊢
  rw [byteAt_list]
  show (((Lib.decDigits n).toArray.toList[k]?).getD 0).toNat = _
  simp only []
  rw [Lib.decDigits_eq, List.getElem?_map, List.getElem?_range hk]
  show (Lib.dg n (Lib.nDigits n - 1 - k)).toNat = _
  unfold Lib.dg
  rw [UInt8.toNat_ofNat']
  have : n / 10 ^ (Lib.nDigits n - 1 - k) % 10 < 10 := Nat.mod_lt _ (by omega)
  omega
theorem div_step (m j : Nat) : m / 10 ^ (j + 1) * 10 + m / 10 ^ j % 10 = m / 10 ^ j := by
  rw [Nat.pow_succ, ← Nat.div_div_eq_div_mul]
  omega
theorem dS_inj_size {n m : Nat} (h : dS n = dS m) : (dS n).size = (dS m).size := by rw [h]
set_option maxRecDepth 100000 in
set_option maxHeartbeats 4000000 in
theorem number_any (s : ByteArray) (hs : (s.size : Int) ≤ 1048576) (w : World) :
    Calls Tryz.prog 11 #[.string s] w fun e w' => ∃ r : Int, e = .returned (.int .i64 r) ∧ (-1 ≤ r ∧ r ≤ 9999999) ∧ (∀ m : Nat, m ≤ 9999999 → s = dS m → r = m) ∧ Below w.heap.size w w' := by
  by_cases h1 : s.size < 1
  · have HX := hid (show ∀ m : Nat, m ≤ 9999999 → s = dS m → (-1 : Int) = m from fun m _ e => by
      have := Lib.nDigits_pos m
      rw [e, dS_len] at h1
      omega)
    go_enter Tryz.func11, Tryz.ntmps11
    go_wp2
    go_ret
    exact ⟨-1, rfl, by omega, HX.out, Below.refl _ _⟩
  by_cases h7 : 7 < s.size
  · have HX := hid (show ∀ m : Nat, m ≤ 9999999 → s = dS m → (-1 : Int) = m from fun m hm e => by
      have := nDigits_le7 hm
      rw [e, dS_len] at h7
      omega)
    go_enter Tryz.func11, Tryz.ntmps11
    go_wp2
    go_ret
    exact ⟨-1, rfl, by omega, HX.out, Below.refl _ _⟩
  go_enter Tryz.func11, Tryz.ntmps11
  go_wp2
  go_loop [3, 4] (fun n i => ∃ k q : Nat, k ≤ s.size ∧ i = .int .i64 k ∧ n = .int .i64 q ∧ q ≤ 9999999 ∧ Hid (q < 10 ^ k) ∧ Hid (∀ m : Nat, s = dS m → q = m / 10 ^ (s.size - k))) (fun _ i => s.size - (intOf i).toNat)
  case atStart => exact ⟨0, 0, Nat.zero_le _, rfl, rfl, by omega, hid (by simp), hid (fun m e => by
    rw [Nat.sub_zero, e, dS_len]
    exact (Nat.div_eq_of_lt (Lib.lt_pow_nDigits m)).symm)⟩
  case round =>
    obtain ⟨k, q, hk, rfl, rfl, hq, HQ, HM⟩ := hrel
    by_cases hkn : k < s.size
    · have HB := hid (byteAt_eq s k hkn)
      have hb256 : s[k].toNat < 256 := UInt8.toNat_lt _
      by_cases hd : 48 ≤ s[k].toNat ∧ s[k].toNat ≤ 57
      · obtain ⟨hd1, hd2⟩ := hd
        have hpow := HQ.out
        have h10 : 10 ^ (k + 1) = 10 * 10 ^ k := by rw [Nat.pow_succ]; omega
        have hk6 : 10 ^ k ≤ 10 ^ 6 := Nat.pow_le_pow_right (by omega) (by omega)
        have hq6 : q ≤ 999999 := by
          have : (10 : Nat) ^ 6 = 1000000 := by decide
          omega
        have HN := hid (show q * 10 + (s[k].toNat - 48) < 10 ^ (k + 1) by omega)
        have HM2 := hid (show ∀ m : Nat, s = dS m → q * 10 + (s[k].toNat - 48) = m / 10 ^ (s.size - (k + 1)) from fun m e => by
          have e1 := HM.out m e
          have e2 : (byteAt s k).toNat = 48 + m / 10 ^ (s.size - 1 - k) % 10 := by
            have := dS_at m k (by rw [← e]; exact hkn)
            rw [← e] at this
            exact this
          rw [HB.out] at e2
          have e3 : s.size - k = (s.size - (k + 1)) + 1 := by omega
          have e4 : s.size - 1 - k = s.size - (k + 1) := by omega
          rw [e3] at e1
          rw [e4] at e2
          have := div_step m (s.size - (k + 1))
          omega)
        clear hpow h10 hk6
        go_wp2
        go_round
        case rel => exact ⟨k + 1, q * 10 + (s[k].toNat - 48), by omega, by go_num, congrArg (Value.int .i64) (by omega), by omega, HN, HM2⟩
        case measure => simp [intOf]; omega
      · have HX := hid (show ∀ m : Nat, m ≤ 9999999 → s = dS m → (-1 : Int) = m from fun m _ e => by
          exfalso
          have e2 : (byteAt s k).toNat = 48 + m / 10 ^ (s.size - 1 - k) % 10 := by
            have := dS_at m k (by rw [← e]; exact hkn)
            rw [← e] at this
            exact this
          rw [HB.out] at e2
          have : m / 10 ^ (s.size - 1 - k) % 10 < 10 := Nat.mod_lt _ (by omega)
          omega)
        by_cases hd1 : s[k].toNat < 48
        · clear hd
          go_wp2
          go_ret
          exact ⟨-1, rfl, by omega, HX.out, Below.refl _ _⟩
        · have hd2 : 57 < s[k].toNat := by omega
          clear hd
          go_wp2
          go_ret
          exact ⟨-1, rfl, by omega, HX.out, Below.refl _ _⟩
    · obtain rfl : k = s.size := by omega
      have HM3 := hid (show ∀ m : Nat, s = dS m → q = m from fun m e => by
        have := HM.out m e
        rw [Nat.sub_self, Nat.pow_zero, Nat.div_one] at this
        exact this)
      by_cases he : dS q = s
      · have HX := hid (show ∀ m : Nat, m ≤ 9999999 → s = dS m → (q : Int) = m from fun m _ e => by rw [HM3.out m e])
        have hD := hid (decS_any q (by omega) w)
        rw [he] at hD
        clear he
        go_wp2_with (go_at_call 18; go_must (refine hD.out.mono ?_; rintro e w1 ⟨rfl, hb1⟩))
        go_ret
        exact ⟨q, rfl, by omega, HX.out, hb1⟩
      · have HX := hid (show ∀ m : Nat, m ≤ 9999999 → s = dS m → (-1 : Int) = m from fun m _ e => by
          exfalso
          have := HM3.out m e
          subst this
          exact he e.symm)
        have hne := toListNe he
        have hD := hid (decS_any q (by omega) w)
        clear he
        go_wp2_with (go_at_call 18; go_must (refine hD.out.mono ?_; rintro e w1 ⟨rfl, hb1⟩))
        go_ret
        exact ⟨-1, rfl, by omega, HX.out, hb1⟩
def sC (l : List ByteArray) : List Value := l.map Value.string
end Go.Proofs.YtcmimbohmninkaaGreatDoor
