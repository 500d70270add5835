import Derived.Test.YtkecnaaacbckoaaN
namespace Go.Proofs.Ytkecnaaacbckoaa
open Go.RowKit
theorem below_alloc' (w : World) (o : Obj) : Below w.heap.size w (w.alloc o) := (Below.refl _ _).alloc (Nat.le_refl _) o
def ascS (n : Nat) (s : Nat → ByteArray) : Bool := allTo (fun i => i == 0 || ltB (s (i - 1)) (s i)) n
theorem ascB_split (n : Nat) (s : Nat → ByteArray) : ascB n s = (ascS n s && allTo (fun i => nameB (s i)) n) := by
  rw [Bool.eq_iff_iff, Bool.and_eq_true]
  unfold ascB ascS
  rw [allTo_iff, allTo_iff, allTo_iff]
  constructor
  · intro h
    exact ⟨fun i hi => by have := h i hi; simp only [Bool.and_eq_true] at this; exact this.2, fun i hi => by have := h i hi; simp only [Bool.and_eq_true] at this; exact this.1⟩
  · intro h i hi
    rw [Bool.and_eq_true]
    exact ⟨h.2 i hi, h.1 i hi⟩
def holdsB (n : Nat) (s : Nat → ByteArray) : Bool := decide (n ≤ 5) && ascB n s
def standB (x : Ob) : Bool := !x.ending || decide (0 < x.hn)
def goneB (x : Ob) : Bool := x.ending && (decide (x.hn = 0) && decide (x.born < x.ver))
def keyI (x z : Ob) : Int := if ltB x.kind z.kind then -1 else if x.kind.toList = z.kind.toList then (if ltB x.name z.name then -1 else if x.name.toList = z.name.toList then 0 else 1) else 1
def befB (x z : Ob) : Bool := if x.kind.toList = z.kind.toList then ltB x.name z.name else ltB x.kind z.kind
set_option maxRecDepth 100000 in
set_option maxHeartbeats 400000 in
theorem key_any (x z : Ob) (ad ad2 : Option Addr) (cap cap2 : Nat) (w : World) :
    Calls Try.prog 34 #[.agg #[.string x.kind, .string x.name, .int .i64 x.ver, .int .i64 x.born, .string x.text, .bool x.ending, .slice ad x.hn cap], .agg #[.string z.kind, .string z.name, .int .i64 z.ver, .int .i64 z.born, .string z.text, .bool z.ending, .slice ad2 z.hn cap2]] w fun e w' => e = .returned (.int .i64 (keyI x z)) ∧ Below w.heap.size w w' := by
  have hB : ∀ o1 o2 : Obj, Below w.heap.size w ((w.alloc o1).alloc o2) := fun o1 o2 => (below_alloc' _ _).alloc (by simp) _
  have HB := hid hB
  clear hB
  cases h1 : ltB x.kind z.kind with
  | true =>
    have HE := hid (show keyI x z = -1 by unfold keyI; rw [h1]; rfl)
    have h1' : Op.bytesLess x.kind.toList z.kind.toList = true := h1
    clear h1
    go_enter Try.func34, Try.ntmps34
    go_wp2
    go_ret
    exact ⟨ret_int HE.out.symm, HB.out _ _⟩
  | false =>
    have h1' : Op.bytesLess x.kind.toList z.kind.toList = false := h1
    by_cases h2 : x.kind.toList = z.kind.toList
    · have h2' : (x.kind.toList == z.kind.toList) = true := by simp [h2]
      cases h3 : ltB x.name z.name with
      | true =>
        have HE := hid (show keyI x z = -1 by unfold keyI; rw [h1, if_pos h2, h3]; rfl)
        have h3' : Op.bytesLess x.name.toList z.name.toList = true := h3
        clear h1 h2 h3
        go_enter Try.func34, Try.ntmps34
        go_wp2
        go_ret
        exact ⟨ret_int HE.out.symm, HB.out _ _⟩
      | false =>
        have h3' : Op.bytesLess x.name.toList z.name.toList = false := h3
        by_cases h4 : x.name.toList = z.name.toList
        · have HE := hid (show keyI x z = 0 by unfold keyI; rw [h1, if_pos h2, h3, if_pos h4]; rfl)
          have h4' : (x.name.toList == z.name.toList) = true := by simp [h4]
          clear h1 h2 h3 h4
          go_enter Try.func34, Try.ntmps34
          go_wp2
          go_ret
          exact ⟨ret_int HE.out.symm, HB.out _ _⟩
        · have HE := hid (show keyI x z = 1 by unfold keyI; rw [h1, if_pos h2, h3, if_neg h4]; rfl)
          have h4' : (x.name.toList == z.name.toList) = false := by simp [h4]
          clear h1 h2 h3 h4
          go_enter Try.func34, Try.ntmps34
          go_wp2
          go_ret
          exact ⟨ret_int HE.out.symm, HB.out _ _⟩
    · have HE := hid (show keyI x z = 1 by unfold keyI; rw [h1, if_neg h2]; rfl)
      have h2' : (x.kind.toList == z.kind.toList) = false := by simp [h2]
      clear h1 h2
      go_enter Try.func34, Try.ntmps34
      go_wp2
      go_ret
      exact ⟨ret_int HE.out.symm, HB.out _ _⟩
end Go.Proofs.Ytkecnaaacbckoaa
