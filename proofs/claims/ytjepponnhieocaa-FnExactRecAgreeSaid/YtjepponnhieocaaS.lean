import Derived.Test.YtjepponnhieocaaQ
import Derived.Test.YtjepponnhieocaaE
namespace Go.Proofs.Ytjepponnhieocaa
open Go.RowKit
/-- a world that w has grown into -/
structure GW (w : World) where
  val : World
  prop : Below w.heap.size w val
/-- A REGION THAT DRAWS, WHOSE OPERATIONS READ AND WHOSE CALLEES READ AND MAKE NEW MEMORY: one walk in the order of the text -/
theorem wp_region_grow {P : Program} {id : Nat} {Q : Exit → Act → World → Prop} {a : Act} {w : World} {l : List Oper} (hm : P.follows .mixedOrders = true) (hB : Region.lexB .any l.toArray = true)
    (h : wpQuiet P l.toArray (fun w' => ∃ u : GW w, w' = u.val) (fun a' => ∀ w', (∃ u : GW w, w' = u.val) → Q .normal a' w') l a) : (Code.region id l.toArray true).wp P Q a w :=
  wp_region_quiet (C := fun w' => ∃ u : GW w, w' = u.val) hm hB ⟨⟨w.drew, (Below.refl _ _).drew⟩, rfl⟩ (by simpa using h)
theorem grow_of {P : Program} {f : FuncId} {args : Array Value} {w : World} {v : Value} {u : GW w}
    (h : Calls P f args u.val fun e w' => e = .returned v ∧ Below u.val.heap.size u.val w') : Calls P f args u.val fun e w'' => e = .returned v ∧ ∃ u' : GW w, w'' = u'.val :=
  h.mono fun _ w'' ⟨he, hb⟩ => ⟨he, ⟨w'', u.prop.trans (hb.mono u.prop.size)⟩, rfl⟩
theorem subcell {W1 : World} {p : Addr} {v : Value} (h : W1.cell? p = some v) (hp : p.block < W1.heap.size) : ∀ u : GW W1, u.val.cell? p = some v := fun u => (u.prop.cell hp).trans h
theorem drewQ {w wr : World} {q nq : Nat} (h : wr = w.drewN q) : ∃ q', wr.drewN nq = w.drewN q' := ⟨q + nq, by rw [h]; simp⟩
/-- ints ascend -/
def ascI (n : Nat) (s : Nat → Int) : Bool := allTo (fun i => i == 0 || decide (s (i - 1) < s i)) n
def numB (of : Int) (n : Nat) (s : Nat → Int) : Bool := allTo (fun i => inB (s i) 1 of) n && ascI n s
theorem numB_all (of : Int) (n : Nat) (s : Nat → Int) : numB of n s = allTo (fun i => inB (s i) 1 of && (i == 0 || decide (s (i - 1) < s i))) n := by
  rw [Bool.eq_iff_iff, numB, ascI, Bool.and_eq_true, allTo_iff, allTo_iff, allTo_iff]
  exact ⟨fun h i hi => by rw [h.1 i hi, h.2 i hi]; rfl, fun h => ⟨fun i hi => by have := h i hi; rw [Bool.and_eq_true] at this; exact this.1, fun i hi => by have := h i hi; rw [Bool.and_eq_true] at this; exact this.2⟩⟩
set_option maxRecDepth 100000 in
set_option maxHeartbeats 2000000 in
theorem numbersS_any (of : Int) (n : Nat) (s : Nat → Int) (ad : Option Addr) (cap : Nat) (w : World) (lo hi : Nat) (hl : (n : Int) ≤ 140737488355328) (hc : IntsIn w lo hi ad n s) :
    Calls Try.prog 90 #[.slice ad n cap, .int .i64 of] w fun e w' => e = .returned (.bool (numB of n s)) ∧ ∃ q, w' = w.drewN q := by
  rw [numB_all]
  go_enter Try.func90, Try.ntmps90
  go_wp2
  go_loopw [5] (fun i wr => ∃ k : Nat, k ≤ n ∧ i = .int .i64 k ∧ Hid (∀ j, j < k → (inB (s j) 1 of && (j == 0 || decide (s (j - 1) < s j))) = true) ∧ ∃ q, wr = w.drewN q) (fun i _ => n - (intOf i).toNat)
  case atStart => exact ⟨0, Nat.zero_le _, rfl, fun j hj => absurd hj (Nat.not_lt_zero _), 0, rfl⟩
  case round =>
    obtain ⟨k, hk, rfl, HA, q, hq⟩ := hrel
    have HQ := hid hq
    by_cases hkn : k < n
    · obtain ⟨b, off, rfl, hlo, hbh, hcx0⟩ := hc k hkn
      have hcx : wr.cell? ⟨b, off + k, none⟩ = some (.int .i64 (s k)) := by rw [hq]; exact hcx0
      clear hcx0
      cases hn : inB (s k) 1 of with
      | false =>
        have HE := hid (allTo_no (p := fun i => inB (s i) 1 of && (i == 0 || decide (s (i - 1) < s i))) hkn (by rw [hn]; rfl))
        clear hc hq
        go_wp2
        go_quiet ((go_at_call 30; go_must (exact Calls.quiet_of_same (in_any _ _ _ _))))
        go_wp2
        go_ret
        exact ⟨ret_bool HE.out.symm, drewQ HQ.out⟩
      | true =>
        rcases Nat.eq_zero_or_pos k with rfl | hpos
        · clear hc hq
          have HN := hid (show (inB (s 0) 1 of && ((0 : Nat) == 0 || decide (s (0 - 1) < s 0))) = true by rw [hn]; rfl)
          simp only [Nat.add_zero] at hcx
          go_wp2
          go_quiet ((go_at_call 30; go_must (exact Calls.quiet_of_same (in_any _ _ _ _))))
          go_wp2
          go_roundw
          case rel => exact ⟨1, by omega, by go_num, fun j hj => (by
            have : j = 0 := by omega
            subst this; exact HN.out), drewQ HQ.out⟩
          case measure => simp [intOf]; omega
        · obtain ⟨m, rfl⟩ : ∃ m, k = m + 1 := ⟨k - 1, by omega⟩
          obtain ⟨b', off', e, _, _, hcy0⟩ := hc m (by omega)
          cases e
          have hcy : wr.cell? ⟨b, off + m, none⟩ = some (.int .i64 (s m)) := by rw [hq]; exact hcy0
          have hg : decide ((0 : Int) < ((m + 1 : Nat) : Int)) = true := decide_eq_true (by omega)
          clear hc hq hcy0
          by_cases hlt : s m < s (m + 1)
          · have HN := hid (show (inB (s (m + 1)) 1 of && (m + 1 == 0 || decide (s (m + 1 - 1) < s (m + 1)))) = true by rw [hn]; simp [hlt])
            go_wp2
            go_quiet ((go_at_call 30; go_must (exact Calls.quiet_of_same (in_any _ _ _ _))))
            go_wp2
            go_roundw
            case rel => exact ⟨m + 2, by omega, by go_num, fun j hj => (by
              rcases Nat.lt_or_ge j (m + 1) with h3 | h3
              · exact HA.out j h3
              · have : j = m + 1 := by omega
                subst this; exact HN.out), drewQ HQ.out⟩
            case measure => simp [intOf]; omega
          · have HE := hid (allTo_no (p := fun i => inB (s i) 1 of && (i == 0 || decide (s (i - 1) < s i))) hkn (by rw [hn]; simp; omega))
            go_wp2
            go_quiet ((go_at_call 30; go_must (exact Calls.quiet_of_same (in_any _ _ _ _))))
            go_wp2
            go_ret
            exact ⟨ret_bool HE.out.symm, drewQ HQ.out⟩
    · have HE := hid (allTo_iff.2 (fun i hi => HA.out i (by omega)) : allTo (fun i => inB (s i) 1 of && (i == 0 || decide (s (i - 1) < s i))) n = true)
      clear hc hq
      go_wp2
      go_ret
      exact ⟨ret_bool HE.out.symm, ⟨q, HQ.out⟩⟩
set_option maxRecDepth 100000 in
set_option maxHeartbeats 2000000 in
theorem numBefore_any (a b : Int) (w : World) : Calls Try.prog 124 #[.int .i64 a, .int .i64 b] w fun e w' => e = .returned (.bool (decide (a < b))) ∧ w' = w := by
  go_enter Try.func124, Try.ntmps124
  go_wp2
  go_ret
  exact ⟨rfl, rfl⟩
set_option maxRecDepth 100000 in
set_option maxHeartbeats 2000000 in
theorem ascI_any (n : Nat) (s : Nat → Int) (ad : Option Addr) (cap : Nat) (w : World) (lo hi : Nat) (hl : (n : Int) ≤ 140737488355328) (hc : IntsIn w lo hi ad n s) :
    Calls Try.prog 123 #[.slice ad n cap, .func (.func 124) #[] #[]] w fun e w' => e = .returned (.bool (ascI n s)) ∧ ∃ q, w' = w.drewN q := by
  go_enter Try.func123, Try.ntmps123
  go_wp2
  go_loopw [5] (fun i wr => ∃ k : Nat, 1 ≤ k ∧ (k ≤ n ∨ k = 1) ∧ i = .int .i64 k ∧ Hid (∀ j, j < k → (j == 0 || decide (s (j - 1) < s j)) = true) ∧ ∃ q, wr = w.drewN q) (fun i _ => n - (intOf i).toNat)
  case atStart => exact ⟨1, Nat.le_refl _, Or.inr rfl, rfl, fun j hj => (by have : j = 0 := by omega
                                                                            subst this; rfl), 0, rfl⟩
  case round =>
    obtain ⟨k, hk1, hk, rfl, HA, q, hq⟩ := hrel
    have HQ := hid hq
    by_cases hkn : k < n
    · obtain ⟨m, rfl⟩ : ∃ m, k = m + 1 := ⟨k - 1, by omega⟩
      obtain ⟨b, off, rfl, hlo, hbh, hcx0⟩ := hc (m + 1) hkn
      obtain ⟨b', off', e, _, hbh', hcy0⟩ := hc m (by omega)
      cases e
      have hcx : wr.cell? ⟨b, off + (m + 1), none⟩ = some (.int .i64 (s (m + 1))) := by rw [hq]; exact hcx0
      have hcy : wr.cell? ⟨b, off + m, none⟩ = some (.int .i64 (s m)) := by rw [hq]; exact hcy0
      have hkz : (m : Int) + 1 ≤ n := by omega
      clear hc hk hcx0 hcy0 hq
      cases hlt : decide (s m < s (m + 1)) with
      | false =>
        have HE := hid (show ascI n s = false from allTo_no (p := fun i => i == 0 || decide (s (i - 1) < s i)) hkn (by simpa using hlt))
        go_wp2
        go_quiet ((go_at_call 124; go_must (exact Calls.quiet_of_same (numBefore_any _ _ _))))
        go_wp2
        go_ret
        exact ⟨ret_bool HE.out.symm, drewQ HQ.out⟩
      | true =>
        have HN := hid (show (m + 1 == 0 || decide (s (m + 1 - 1) < s (m + 1))) = true by simpa using hlt)
        go_wp2
        go_quiet ((go_at_call 124; go_must (exact Calls.quiet_of_same (numBefore_any _ _ _))))
        go_wp2
        go_roundw
        case rel => exact ⟨m + 2, by omega, Or.inl (by omega), by go_num, fun j hj => (by
          rcases Nat.lt_or_ge j (m + 1) with h3 | h3
          · exact HA.out j h3
          · have : j = m + 1 := by omega
            subst this; exact HN.out), drewQ HQ.out⟩
        case measure => simp [intOf]; omega
    · have HE := hid (show ascI n s = true from allTo_iff.2 (fun i hi => HA.out i (by omega)))
      clear hc hk hq
      go_wp2
      go_ret
      exact ⟨ret_bool HE.out.symm, ⟨q, HQ.out⟩⟩
set_option maxRecDepth 100000 in
set_option maxHeartbeats 2000000 in
theorem numbers_any (of : Int) (n : Nat) (s : Nat → Int) (ad : Option Addr) (cap : Nat) (w : World) (lo hi : Nat) (hl : (n : Int) ≤ 140737488355328) (hc : IntsIn w lo hi ad n s) :
    Calls Try.prog 112 #[.slice ad n cap, .int .i64 of] w fun e w' => e = .returned (.bool (numB of n s)) ∧ ∃ q, w' = w.drewN q := by
  go_enter Try.func112, Try.ntmps112
  go_wp2
  go_loopw [9] (fun i wr => ∃ k : Nat, k ≤ n ∧ i = .int .i64 k ∧ wr = w ∧ Hid (∀ j, j < k → inB (s j) 1 of = true)) (fun i _ => n - (intOf i).toNat)
  case atStart => exact ⟨0, Nat.zero_le _, rfl, rfl, fun j hj => absurd hj (Nat.not_lt_zero _)⟩
  case round =>
    obtain ⟨k, hk, rfl, rfl, HA⟩ := hrel
    by_cases hkn : k < n
    · obtain ⟨b, off, rfl, hlo, hbh, hcx⟩ := hc k hkn
      clear hc
      cases hn : inB (s k) 1 of with
      | false =>
        have HE := hid (show numB of n s = false by rw [numB, allTo_no (p := fun i => inB (s i) 1 of) hkn hn]; rfl)
        go_wp2_with (go_at_call 80; refine (within_any _ _ _ _).mono ?_; rintro e w1 ⟨rfl, rfl⟩; rw [hn])
        go_ret
        exact ⟨ret_bool HE.out.symm, 0, rfl⟩
      | true =>
        have HN := hid hn
        go_wp2_with (go_at_call 80; refine (within_any _ _ _ _).mono ?_; rintro e w1 ⟨rfl, rfl⟩; rw [hn])
        go_roundw
        case rel => exact ⟨k + 1, by omega, by go_num, by first | rfl | trivial, fun j hj => by
          by_cases e : j = k
          · rw [e]; exact HN.out
          · exact HA.out j (by omega)⟩
        case measure => simp [intOf]; omega
    · have HE := hid (show numB of n s = ascI n s by rw [numB, allTo_iff.2 (fun i hi => HA.out i (by omega))]; rfl)
      have hcA := ascI_any n s ad cap wr lo hi hl hc
      clear hc
      go_wp2_with (go_at_call 123; refine hcA.mono ?_; rintro e w1 ⟨rfl, q, rfl⟩)
      go_ret
      exact ⟨ret_bool HE.out.symm, q, rfl⟩
end Go.Proofs.Ytjepponnhieocaa
