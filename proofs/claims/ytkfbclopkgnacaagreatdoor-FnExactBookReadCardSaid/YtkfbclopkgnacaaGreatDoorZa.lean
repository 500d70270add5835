import Derived.Test.YtkfbclopkgnacaaGreatDoorZ
namespace Go.Proofs.YtkfbclopkgnacaaGreatDoor
open Go.RowKit Go.Maps
def sEq (n : Nat) (s : Nat → ByteArray) (m : Nat) (t : Nat → ByteArray) : Bool := decide (n = m) && allTo (fun i => decide (s i = t i)) n
def sameB (x z : Ob) : Bool := decide (x.kind = z.kind) && (decide (x.name = z.name) && (decide (x.ver = z.ver) && (decide (x.born = z.born) && (decide (x.text = z.text) && (decide (x.ending = z.ending) && sEq x.hn x.hs z.hn z.hs)))))
theorem beq_false {a b : ByteArray} (h : ¬ a = b) : (a.toList == b.toList) = false := by
  cases hb : (a.toList == b.toList) with
  | false => rfl
  | true => exact absurd (toList_inj' (eq_of_beq hb)) h
theorem drewN_two (w : World) (a b : Nat) : ∃ q, (w.drewN a).drewN b = w.drewN q := ⟨a + b, by simp [World.drewN, Nat.add_assoc]⟩
set_option maxRecDepth 100000 in
set_option maxHeartbeats 1000000 in
theorem slicesEq_any (n m : Nat) (s t : Nat → ByteArray) (ad ad2 : Option Addr) (cap cap2 : Nat) (w : World) (lo hi lo2 hi2 : Nat) (hl : (n : Int) ≤ 140737488355328) (hm : (m : Int) ≤ 140737488355328)
    (hc : StrsIn w lo hi ad n s) (hc2 : StrsIn w lo2 hi2 ad2 m t) :
    Calls Tryz.prog 128 #[.slice ad n cap, .slice ad2 m cap2] w fun e w' => e = .returned (.bool (sEq n s m t)) ∧ ∃ q, w' = w.drewN q := by
  by_cases hq : n = m
  case neg =>
    have HE := hid (show sEq n s m t = false by simp [sEq, hq])
    have hd : ¬ (n : Int) = m := by omega
    go_enter Tryz.func128, Tryz.ntmps128
    go_wp2
    go_ret
    exact ⟨ret_bool HE.out.symm, 0, rfl⟩
  subst hq
  go_enter Tryz.func128, Tryz.ntmps128
  go_wp2
  go_loopw [13] (fun i wr => ∃ k : Nat, k ≤ n ∧ i = .int .i64 k ∧ (∀ j, j < k → s j = t j) ∧ ∃ q, wr = w.drewN q) (fun i _ => n - (intOf i).toNat)
  case atStart => exact ⟨0, Nat.zero_le _, rfl, fun j hj => absurd hj (Nat.not_lt_zero _), 0, rfl⟩
  case round =>
    obtain ⟨k, hk, rfl, hall, q, rfl⟩ := hrel
    by_cases hkn : k < n
    · obtain ⟨b, off, rfl, hlo, hbh, hcx⟩ := hc k hkn
      obtain ⟨b2, off2, rfl, hlo2, hbh2, hcx2⟩ := hc2 k hkn
      have HA := hid hall
      clear hc hc2 hall
      by_cases he : s k = t k
      · have HS := hid he
        have hd : ((s k).toList == (t k).toList) = true := by rw [he]; simp
        clear he
        go_wp2
        go_quiet (fail)
        go_wp2
        go_roundw
        case rel => exact ⟨k + 1, by omega, by go_num, fun j hj => (by
          rcases Nat.lt_or_ge j k with h3 | h3
          · exact HA.out j h3
          · have : j = k := by omega
            subst this; exact HS.out), _, rfl⟩
        case measure => simp [intOf]; omega
      · have HE := hid (show sEq n s n t = false by unfold sEq; rw [allTo_no (p := fun i => decide (s i = t i)) hkn (by simp [he])]; simp)
        have hd : ((s k).toList == (t k).toList) = false := beq_false he
        clear he
        go_wp2
        go_quiet (fail)
        go_wp2
        go_ret
        exact ⟨ret_bool HE.out.symm, drewN_two _ _ _⟩
    · have HE := hid (show sEq n s n t = true by unfold sEq; rw [allTo_iff.2 (fun i hi => by simp [hall i (by omega)])]; simp)
      clear hc hc2 hall
      go_wp2
      go_ret
      exact ⟨ret_bool HE.out.symm, q, rfl⟩
set_option maxRecDepth 100000 in
set_option maxHeartbeats 1000000 in
theorem l1Same_any (x z : Ob) (ad ad2 : Option Addr) (cap cap2 : Nat) (w : World) (lo hi : Nat) (hhi : hi ≤ w.heap.size) (hx : (x.hn : Int) ≤ 140737488355328) (hz : (z.hn : Int) ≤ 140737488355328) (hc : StrsIn w lo hi ad x.hn x.hs) (hc2 : StrsIn w lo hi ad2 z.hn z.hs) :
    Calls Tryz.prog 79 #[.agg #[.string x.kind, .string x.name, .int .i64 x.ver, .int .i64 x.born, .string x.text, .bool x.ending, .slice ad x.hn cap], .agg #[.string z.kind, .string z.name, .int .i64 z.ver, .int .i64 z.born, .string z.text, .bool z.ending, .slice ad2 z.hn cap2]] w fun e w' => e = .returned (.bool (sameB x z)) ∧ Below w.heap.size w w' := by
  obtain ⟨k, na, v, bo, te, en, hn, hs⟩ := x
  obtain ⟨k', na', v', bo', te', en', hn', hs'⟩ := z
  dsimp only at hx hz hc hc2 ⊢
  by_cases hq : k = k'
  case neg =>
    have HE := hid (show sameB ⟨k, na, v, bo, te, en, hn, hs⟩ ⟨k', na', v', bo', te', en', hn', hs'⟩ = false by simp [sameB, hq])
    have hd : (k.toList == k'.toList) = false := beq_false hq
    clear hq
    go_enter Tryz.func79, Tryz.ntmps79
    go_wp2
    go_ret
    exact ⟨ret_bool HE.out.symm, ((below_alloc' _ _).alloc (by simp) _)⟩
  subst hq
  by_cases hq : na = na'
  case neg =>
    have HE := hid (show sameB ⟨k, na, v, bo, te, en, hn, hs⟩ ⟨k, na', v', bo', te', en', hn', hs'⟩ = false by simp [sameB, hq])
    have hd : (na.toList == na'.toList) = false := beq_false hq
    clear hq
    go_enter Tryz.func79, Tryz.ntmps79
    go_wp2
    go_ret
    exact ⟨ret_bool HE.out.symm, ((below_alloc' _ _).alloc (by simp) _)⟩
  subst hq
  by_cases hq : v = v'
  case neg =>
    have HE := hid (show sameB ⟨k, na, v, bo, te, en, hn, hs⟩ ⟨k, na, v', bo', te', en', hn', hs'⟩ = false by simp [sameB, hq])
    have hd := hq
    go_enter Tryz.func79, Tryz.ntmps79
    go_wp2
    go_ret
    exact ⟨ret_bool HE.out.symm, ((below_alloc' _ _).alloc (by simp) _)⟩
  subst hq
  by_cases hq : bo = bo'
  case neg =>
    have HE := hid (show sameB ⟨k, na, v, bo, te, en, hn, hs⟩ ⟨k, na, v, bo', te', en', hn', hs'⟩ = false by simp [sameB, hq])
    have hd := hq
    go_enter Tryz.func79, Tryz.ntmps79
    go_wp2
    go_ret
    exact ⟨ret_bool HE.out.symm, ((below_alloc' _ _).alloc (by simp) _)⟩
  subst hq
  by_cases hq : te = te'
  case neg =>
    have HE := hid (show sameB ⟨k, na, v, bo, te, en, hn, hs⟩ ⟨k, na, v, bo, te', en', hn', hs'⟩ = false by simp [sameB, hq])
    have hd : (te.toList == te'.toList) = false := beq_false hq
    clear hq
    go_enter Tryz.func79, Tryz.ntmps79
    go_wp2
    go_ret
    exact ⟨ret_bool HE.out.symm, ((below_alloc' _ _).alloc (by simp) _)⟩
  subst hq
  by_cases hq : en = en'
  case neg =>
    have HE := hid (show sameB ⟨k, na, v, bo, te, en, hn, hs⟩ ⟨k, na, v, bo, te, en', hn', hs'⟩ = false by simp [sameB, hq])
    have hd : (en == en') = false := by simpa using hq
    clear hq
    cases en <;> cases en' <;> simp at hd
    all_goals
      go_enter Tryz.func79, Tryz.ntmps79
      go_wp2
      go_ret
      exact ⟨ret_bool HE.out.symm, ((below_alloc' _ _).alloc (by simp) _)⟩
  subst hq
  by_cases hq : hn = hn'
  case neg =>
    have HE := hid (show sameB ⟨k, na, v, bo, te, en, hn, hs⟩ ⟨k, na, v, bo, te, en, hn', hs'⟩ = false by simp [sameB, sEq, hq])
    have hd : ¬ (hn : Int) = hn' := by omega
    go_enter Tryz.func79, Tryz.ntmps79
    go_wp2
    go_ret
    exact ⟨ret_bool HE.out.symm, ((below_alloc' _ _).alloc (by simp) _)⟩
  subst hq
  go_enter Tryz.func79, Tryz.ntmps79
  go_wp2
  go_loopw [5] (fun i wr => ∃ j : Nat, j ≤ hn ∧ i = .int .i64 j ∧ (∀ l, l < j → hs l = hs' l) ∧ ∃ q, wr = ((w.alloc (.cells #[.string k, .string na, .int .i64 v, .int .i64 bo, .string te, .bool en, .slice ad hn cap] 38)).alloc (.cells #[.string k, .string na, .int .i64 v, .int .i64 bo, .string te, .bool en, .slice ad2 hn cap2] 38)).drewN q) (fun i _ => hn - (intOf i).toNat)
  case atStart => exact ⟨0, Nat.zero_le _, rfl, fun j hj => absurd hj (Nat.not_lt_zero _), 0, rfl⟩
  case round =>
    obtain ⟨j, hj, rfl, hall, q, rfl⟩ := hrel
    by_cases hkn : j < hn
    · obtain ⟨b, off, rfl, hlo, hbh, hcx⟩ := hc j hkn
      obtain ⟨b2, off2, rfl, hlo2, hbh2, hcx2⟩ := hc2 j hkn
      have hbw : b < w.heap.size := by omega
      have hbw2 : b2 < w.heap.size := by omega
      have f1 := fun o1 o2 => (World.cell?_alloc_past (w := w.alloc o1) o2 _ _ (by simp; omega)).trans ((World.cell?_alloc_past (w := w) o1 _ _ hbw).trans hcx)
      have f2 := fun o1 o2 => (World.cell?_alloc_past (w := w.alloc o1) o2 _ _ (by simp; omega)).trans ((World.cell?_alloc_past (w := w) o1 _ _ hbw2).trans hcx2)
      have HA := hid hall
      clear hc hc2 hall
      by_cases he : hs j = hs' j
      · have HS := hid he
        have hd : ((hs j).toList == (hs' j).toList) = true := by rw [he]; simp
        clear he
        go_wp2
        go_quiet (fail)
        go_wp2
        go_roundw
        case rel => exact ⟨j + 1, by omega, by go_num, fun l hl => (by
          rcases Nat.lt_or_ge l j with h3 | h3
          · exact HA.out l h3
          · have : l = j := by omega
            subst this; exact HS.out), _, rfl⟩
        case measure => simp [intOf]; omega
      · have HE := hid (show sameB ⟨k, na, v, bo, te, en, hn, hs⟩ ⟨k, na, v, bo, te, en, hn, hs'⟩ = false by simp only [sameB, sEq]; rw [allTo_no (p := fun i => decide (hs i = hs' i)) hkn (by simp [he])]; simp)
        have hd : ((hs j).toList == (hs' j).toList) = false := beq_false he
        clear he
        go_wp2
        go_quiet (fail)
        go_wp2
        go_ret
        exact ⟨ret_bool HE.out.symm, ((below_alloc' _ _).alloc (by simp) _).trans (((below_drewN' _ _).trans ((below_drewN' _ _).mono (by simp))).mono (by simp; omega))⟩
    · have HE := hid (show sameB ⟨k, na, v, bo, te, en, hn, hs⟩ ⟨k, na, v, bo, te, en, hn, hs'⟩ = true by simp only [sameB, sEq]; rw [allTo_iff.2 (fun i hi => by simp [hall i (by omega)])]; simp)
      clear hc hc2 hall
      go_wp2
      go_ret
      exact ⟨ret_bool HE.out.symm, ((below_alloc' _ _).alloc (by simp) _).trans ((below_drewN' _ _).mono (by simp; omega))⟩
end Go.Proofs.YtkfbclopkgnacaaGreatDoor
