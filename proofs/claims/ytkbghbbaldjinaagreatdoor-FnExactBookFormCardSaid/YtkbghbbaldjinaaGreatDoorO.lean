import Derived.Test.YtkbghbbaldjinaaGreatDoorN
namespace Go.Proofs.YtkbghbbaldjinaaGreatDoor
open Go.RowKit
theorem below_alloc' (w : World) (o : Obj) : Below w.heap.size w (w.alloc o) := (Below.refl _ _).alloc (Nat.le_refl _) o
def ascS (n : Nat) (s : Nat → ByteArray) : Bool := allTo (fun i => i == 0 || ltB (s (i - 1)) (s i)) n
theorem ascB_split (n : Nat) (s : Nat → ByteArray) : ascB n s = (ascS n s && allTo (fun i => nameB (s i)) n) := by
  rw [Bool.eq_iff_iff, Bool.and_eq_true]
  unfold ascB ascS
  rw [allTo_iff, allTo_iff, allTo_iff]
  constructor
  · intro h
    exact ⟨fun i hi => by have := h i hi; simp only [Bool.and_eq_true] at this; exact this.2, fun i hi => by have := h i hi; simp only [Bool.and_eq_true] at this; exact this.1⟩
  · intro h i hi
    rw [Bool.and_eq_true]
    exact ⟨h.2 i hi, h.1 i hi⟩
set_option maxRecDepth 100000 in
set_option maxHeartbeats 1000000 in
theorem ascS_any (n : Nat) (s : Nat → ByteArray) (ad : Option Addr) (cap : Nat) (w : World) (lo hi : Nat) (hl : (n : Int) ≤ 140737488355328) (hc : StrsIn w lo hi ad n s) :
    Calls Tryz.prog 98 #[.slice ad n cap, .func (.func 99) #[] #[]] w fun e w' => e = .returned (.bool (ascS n s)) ∧ ∃ q, w' = w.drewN q := by
  go_enter Tryz.func98, Tryz.ntmps98
  go_wp2
  go_loopw [5] (fun i wr => ∃ k : Nat, 1 ≤ k ∧ (k ≤ n ∨ k = 1) ∧ i = .int .i64 k ∧ (∀ j, j < k → (j == 0 || ltB (s (j - 1)) (s j)) = true) ∧ ∃ q, wr = w.drewN q) (fun i _ => n - (intOf i).toNat)
  case atStart => exact ⟨1, Nat.le_refl _, Or.inr rfl, rfl, fun j hj => (by have : j = 0 := by omega
                                                                            subst this; rfl), 0, rfl⟩
  case round =>
    obtain ⟨k, hk1, hk, rfl, hall, q, hq⟩ := hrel
    have HQ := hid hq
    by_cases hkn : k < n
    · obtain ⟨m, rfl⟩ : ∃ m, k = m + 1 := ⟨k - 1, by omega⟩
      obtain ⟨b, off, rfl, hlo, hbh, hcx0⟩ := hc (m + 1) hkn
      obtain ⟨b', off', e, _, _, hcy0⟩ := hc m (by omega)
      cases e
      have hcx : wr.cell? ⟨b, off + (m + 1), none⟩ = some (.string (s (m + 1))) := by rw [hq]; exact hcx0
      have hcy : wr.cell? ⟨b, off + m, none⟩ = some (.string (s m)) := by rw [hq]; exact hcy0
      have HA := hid hall
      have hkz : (m : Int) + 1 ≤ n := by omega
      clear hall hcx0 hcy0 hc hq hk
      cases hlt : ltB (s m) (s (m + 1)) with
      | false =>
        have HE := hid (allTo_no (p := fun i => i == 0 || ltB (s (i - 1)) (s i)) hkn (by simp [hlt]))
        go_wp2
        go_quiet ((go_at_call 99; go_must (exact Calls.quiet_of_same (textBefore_any _ _ _))))
        go_wp2
        go_ret
        exact ⟨ret_bool HE.out.symm, drewQ HQ.out⟩
      | true =>
        have HN := hid (show (m + 1 == 0 || ltB (s (m + 1 - 1)) (s (m + 1))) = true by simp [hlt])
        go_wp2
        go_quiet ((go_at_call 99; go_must (exact Calls.quiet_of_same (textBefore_any _ _ _))))
        go_wp2
        go_roundw
        case rel => exact ⟨m + 2, by omega, Or.inl (by omega), by go_num, fun j hj => (by
          rcases Nat.lt_or_ge j (m + 1) with h3 | h3
          · exact HA.out j h3
          · have : j = m + 1 := by omega
            subst this; exact HN.out), drewQ HQ.out⟩
        case measure => simp [intOf]; omega
    · have HE := hid (allTo_iff.2 (fun i hi => hall i (by omega)) : ascS n s = true)
      clear hall hc hq hk
      go_wp2
      go_ret
      exact ⟨ret_bool HE.out.symm, q, HQ.out⟩
def holdsB (n : Nat) (s : Nat → ByteArray) : Bool := decide (n ≤ 5) && ascB n s
set_option maxRecDepth 100000 in
set_option maxHeartbeats 1000000 in
theorem holdsFit_any (n : Nat) (s : Nat → ByteArray) (ad : Option Addr) (cap : Nat) (w : World) (lo hi : Nat) (hl : (n : Int) ≤ 140737488355328) (hm : ∀ i, i < n → ((s i).size : Int) ≤ 140737488355328) (hc : StrsIn w lo hi ad n s) :
    Calls Tryz.prog 86 #[.slice ad n cap] w fun e w' => e = .returned (.bool (holdsB n s)) ∧ ∃ q, w' = w.drewN q := by
  by_cases h5 : (5 : Int) < n
  · have HE := hid (show holdsB n s = false by unfold holdsB; rw [decide_eq_false (by omega)]; rfl)
    go_enter Tryz.func86, Tryz.ntmps86
    go_wp2
    go_ret
    exact ⟨ret_bool HE.out.symm, 0, rfl⟩
  cases ha : ascS n s with
  | false =>
    have HE := hid (show holdsB n s = false by unfold holdsB; rw [ascB_split, ha]; simp)
    go_enter Tryz.func86, Tryz.ntmps86
    go_wp2_with (go_at_call 98; refine (ascS_any n s ad cap _ lo hi hl hc).mono ?_; rintro e w1 ⟨rfl, q, rfl⟩)
    go_ret
    exact ⟨ret_bool HE.out.symm, _, rfl⟩
  | true =>
    have HAS := hid ha
    go_enter Tryz.func86, Tryz.ntmps86
    go_wp2_with (go_at_call 98; refine (ascS_any n s ad cap _ lo hi hl hc).mono ?_; rintro e w1 ⟨rfl, q0, rfl⟩)
    go_loop [15] (fun i => ∃ k : Nat, k ≤ n ∧ i = .int .i64 k ∧ ∀ j, j < k → nameB (s j) = true) (fun i => n - (intOf i).toNat)
    case atStart => exact ⟨0, Nat.zero_le _, rfl, fun j hj => absurd hj (Nat.not_lt_zero _)⟩
    case round =>
      obtain ⟨k, hk, rfl, hall⟩ := hrel
      by_cases hkn : k < n
      · obtain ⟨b, off, rfl, hlo, hbh, hcx⟩ := hc k hkn
        have hmk := hm k hkn
        have HA := hid hall
        clear hall hc hm ha
        cases hn : nameB (s k) with
        | false =>
          have HE := hid (show holdsB n s = false by unfold holdsB; rw [ascB_split, allTo_no (p := fun i => nameB (s i)) hkn hn]; simp)
          go_wp2_with (go_at_call 85; refine (isName_any _ _ hmk).mono ?_; rintro e w1 ⟨rfl, rfl⟩)
          go_ret
          exact ⟨ret_bool HE.out.symm, _, rfl⟩
        | true =>
          have HN := hid hn
          go_wp2_with (go_at_call 85; refine (isName_any _ _ hmk).mono ?_; rintro e w1 ⟨rfl, rfl⟩)
          go_round
          case rel => exact ⟨k + 1, by omega, by go_num, fun j hj => (by
            rcases Nat.lt_or_ge j k with h3 | h3
            · exact HA.out j h3
            · have : j = k := by omega
              subst this; exact HN.out)⟩
          case measure => simp [intOf]; omega
      · have HE := hid (show holdsB n s = true by unfold holdsB; rw [ascB_split, HAS.out, decide_eq_true (show n ≤ 5 by omega), allTo_iff.2 (fun i hi => hall i (by omega))]; rfl)
        clear hall hc hm ha
        go_wp2
        go_ret
        exact ⟨ret_bool HE.out.symm, _, rfl⟩
def standB (x : Ob) : Bool := !x.ending || decide (0 < x.hn)
def goneB (x : Ob) : Bool := x.ending && (decide (x.hn = 0) && decide (x.born < x.ver))
set_option maxRecDepth 100000 in
set_option maxHeartbeats 400000 in
theorem mayStand_any (x : Ob) (ad : Option Addr) (cap : Nat) (w : World) (hl : (x.hn : Int) ≤ 140737488355328) :
    Calls Tryz.prog 67 #[.agg #[.string x.kind, .string x.name, .int .i64 x.ver, .int .i64 x.born, .string x.text, .bool x.ending, .slice ad x.hn cap]] w fun e w' => e = .returned (.bool (standB x)) ∧ Below w.heap.size w w' := by
  obtain ⟨ki, na, ve, bo, te, en, hn, hs⟩ := x
  dsimp only at hl ⊢
  cases en with
  | false =>
    go_enter Tryz.func67, Tryz.ntmps67
    go_wp2
    go_ret
    exact ⟨rfl, below_alloc' _ _⟩
  | true =>
    go_enter Tryz.func67, Tryz.ntmps67
    go_wp2
    go_ret
    refine ⟨ret_bool ?_, below_alloc' _ _⟩
    simp [standB]
set_option maxRecDepth 100000 in
set_option maxHeartbeats 400000 in
theorem mayBeGone_any (x : Ob) (ad : Option Addr) (cap : Nat) (w : World) (hl : (x.hn : Int) ≤ 140737488355328) :
    Calls Tryz.prog 87 #[.agg #[.string x.kind, .string x.name, .int .i64 x.ver, .int .i64 x.born, .string x.text, .bool x.ending, .slice ad x.hn cap]] w fun e w' => e = .returned (.bool (goneB x)) ∧ Below w.heap.size w w' := by
  obtain ⟨ki, na, ve, bo, te, en, hn, hs⟩ := x
  dsimp only at hl ⊢
  cases en with
  | false =>
    go_enter Tryz.func87, Tryz.ntmps87
    go_wp2
    go_ret
    exact ⟨rfl, below_alloc' _ _⟩
  | true =>
    rcases Nat.eq_zero_or_pos hn with rfl | hp
    · go_enter Tryz.func87, Tryz.ntmps87
      go_wp2
      go_ret
      exact ⟨ret_bool (by simp [goneB]), below_alloc' _ _⟩
    · have he : ((hn : Int) == 0) = false := by simp; omega
      have HE := hid (show goneB ⟨ki, na, ve, bo, te, true, hn, hs⟩ = false by simp [goneB]; omega)
      go_enter Tryz.func87, Tryz.ntmps87
      go_wp2
      go_ret
      exact ⟨ret_bool HE.out.symm, below_alloc' _ _⟩
def keyI (x z : Ob) : Int := if ltB x.kind z.kind then -1 else if x.kind.toList = z.kind.toList then (if ltB x.name z.name then -1 else if x.name.toList = z.name.toList then 0 else 1) else 1
def befB (x z : Ob) : Bool := if x.kind.toList = z.kind.toList then ltB x.name z.name else ltB x.kind z.kind
set_option maxRecDepth 100000 in
set_option maxHeartbeats 400000 in
theorem key_any (x z : Ob) (ad ad2 : Option Addr) (cap cap2 : Nat) (w : World) :
    Calls Tryz.prog 56 #[.agg #[.string x.kind, .string x.name, .int .i64 x.ver, .int .i64 x.born, .string x.text, .bool x.ending, .slice ad x.hn cap], .agg #[.string z.kind, .string z.name, .int .i64 z.ver, .int .i64 z.born, .string z.text, .bool z.ending, .slice ad2 z.hn cap2]] w fun e w' => e = .returned (.int .i64 (keyI x z)) ∧ Below w.heap.size w w' := by
  have hB : ∀ o1 o2 : Obj, Below w.heap.size w ((w.alloc o1).alloc o2) := fun o1 o2 => (below_alloc' _ _).alloc (by simp) _
  have HB := hid hB
  clear hB
  cases h1 : ltB x.kind z.kind with
  | true =>
    have HE := hid (show keyI x z = -1 by unfold keyI; rw [h1]; rfl)
    have h1' : Op.bytesLess x.kind.toList z.kind.toList = true := h1
    clear h1
    go_enter Tryz.func56, Tryz.ntmps56
    go_wp2
    go_ret
    exact ⟨ret_int HE.out.symm, HB.out _ _⟩
  | false =>
    have h1' : Op.bytesLess x.kind.toList z.kind.toList = false := h1
    by_cases h2 : x.kind.toList = z.kind.toList
    · have h2' : (x.kind.toList == z.kind.toList) = true := by simp [h2]
      cases h3 : ltB x.name z.name with
      | true =>
        have HE := hid (show keyI x z = -1 by unfold keyI; rw [h1, if_pos h2, h3]; rfl)
        have h3' : Op.bytesLess x.name.toList z.name.toList = true := h3
        clear h1 h2 h3
        go_enter Tryz.func56, Tryz.ntmps56
        go_wp2
        go_ret
        exact ⟨ret_int HE.out.symm, HB.out _ _⟩
      | false =>
        have h3' : Op.bytesLess x.name.toList z.name.toList = false := h3
        by_cases h4 : x.name.toList = z.name.toList
        · have HE := hid (show keyI x z = 0 by unfold keyI; rw [h1, if_pos h2, h3, if_pos h4]; rfl)
          have h4' : (x.name.toList == z.name.toList) = true := by simp [h4]
          clear h1 h2 h3 h4
          go_enter Tryz.func56, Tryz.ntmps56
          go_wp2
          go_ret
          exact ⟨ret_int HE.out.symm, HB.out _ _⟩
        · have HE := hid (show keyI x z = 1 by unfold keyI; rw [h1, if_pos h2, h3, if_neg h4]; rfl)
          have h4' : (x.name.toList == z.name.toList) = false := by simp [h4]
          clear h1 h2 h3 h4
          go_enter Tryz.func56, Tryz.ntmps56
          go_wp2
          go_ret
          exact ⟨ret_int HE.out.symm, HB.out _ _⟩
    · have HE := hid (show keyI x z = 1 by unfold keyI; rw [h1, if_neg h2]; rfl)
      have h2' : (x.kind.toList == z.kind.toList) = false := by simp [h2]
      clear h1 h2
      go_enter Tryz.func56, Tryz.ntmps56
      go_wp2
      go_ret
      exact ⟨ret_int HE.out.symm, HB.out _ _⟩
end Go.Proofs.YtkbghbbaldjinaaGreatDoor
