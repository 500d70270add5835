import Derived.Test.YtjepponnhieocaaWc0
import Derived.Test.YtjepponnhieocaaWc1
import Derived.Test.YtjepponnhieocaaWc2
import Derived.Test.YtjepponnhieocaaWr0
import Derived.Test.YtjepponnhieocaaWr1
import Derived.Test.YtjepponnhieocaaWr2
namespace Go.Proofs.Ytjepponnhieocaa
open Go.RowKit
set_option maxRecDepth 100000 in
set_option maxHeartbeats 8000000 in
theorem ivBoth (r0 : Rc) (A : RcA) (w : World) : Calls Try.prog 70 #[rcV (setR r0 true true r0.up) A] w fun e w' => e = .returned (.bool false) ∧ Below w.heap.size w w' := by
  go_enter Try.func70, Try.ntmps70
  go_wp2
  go_ret
  exact ⟨rfl, below_alloc _ _⟩
theorem implRest_any (r : Rc) (A : RcA) (w : World) (lo hi : Nat) (hhi : hi ≤ w.heap.size) (hf : RcFit r) (hn : RcNew r A) (hc : RcIn w lo hi r A) (hl : (r.ld && r.tr) = false) :
    Calls Try.prog 70 #[rcV r A] w fun e w' => e = .returned (.bool (restB r)) ∧ Below w.heap.size w w' := by
  cases h0 : numOk r.num r.of with
  | false =>
    have e : restB r = false := by simp only [restB, h0, Bool.false_and]
    rw [e]
    exact iv0 r A w lo hi hhi hf hn hc (hid hl) h0
  | true =>
  cases h1 : dkB r.sf with
  | false =>
    have e : restB r = false := by simp only [restB, h0, h1, Bool.false_and, Bool.true_and]
    rw [e]
    exact iv1 r A w lo hi hhi hf hn hc (hid hl) h0 h1
  | true =>
  cases h2 : dkB r.dk with
  | false =>
    have e : restB r = false := by simp only [restB, h0, h1, h2, Bool.false_and, Bool.true_and]
    rw [e]
    exact iv2 r A w lo hi hhi hf hn hc (hid hl) h0 h1 h2
  | true =>
  cases h3 : heldB r with
  | false =>
    have e : restB r = false := by simp only [restB, h0, h1, h2, h3, Bool.false_and, Bool.true_and]
    rw [e]
    exact iv3 r A w lo hi hhi hf hn hc (hid hl) h0 h1 h2 h3
  | true =>
  cases h4 : wishesB r.wn r.ws with
  | false =>
    have e : restB r = false := by simp only [restB, h0, h1, h2, h3, h4, Bool.false_and, Bool.true_and]
    rw [e]
    exact iv4 r A w lo hi hhi hf hn hc (hid hl) h0 h1 h2 h3 h4
  | true =>
  cases h5 : inB r.hd 0 1000000 with
  | false =>
    have e : restB r = false := by simp only [restB, h0, h1, h2, h3, h4, h5, Bool.false_and, Bool.true_and]
    rw [e]
    exact iv5 r A w lo hi hhi hf hn hc (hid hl) h0 h1 h2 h3 h4 h5
  | true =>
  cases h6 : numB r.of r.yn r.ys with
  | false =>
    have e : restB r = false := by simp only [restB, h0, h1, h2, h3, h4, h5, h6, Bool.false_and, Bool.true_and]
    rw [e]
    exact iv6 r A w lo hi hhi hf hn hc (hid hl) h0 h1 h2 h3 h4 h5 h6
  | true =>
  cases h7 : slsB r.bn r.bs with
  | false =>
    have e : restB r = false := by simp only [restB, h0, h1, h2, h3, h4, h5, h6, h7, Bool.false_and, Bool.true_and]
    rw [e]
    exact iv7 r A w lo hi hhi hf hn hc (hid hl) h0 h1 h2 h3 h4 h5 h6 h7
  | true =>
  cases h8 : aksB r.of r.an r.as_ with
  | false =>
    have e : restB r = false := by simp only [restB, h0, h1, h2, h3, h4, h5, h6, h7, h8, Bool.false_and, Bool.true_and]
    rw [e]
    exact iv8 r A w lo hi hhi hf hn hc (hid hl) h0 h1 h2 h3 h4 h5 h6 h7 h8
  | true =>
  have e : restB r = (roleB r && (r.up || bareB r)) := by simp only [restB, h0, h1, h2, h3, h4, h5, h6, h7, h8, Bool.true_and]
  rw [e]
  clear e
  obtain ⟨num, of, up, sf, dk, hn', hs', wn, ws, ld, tr, bal, yn, ys, bn, bs, an, as', hd⟩ := r
  dsimp only at h0 h1 h2 h3 h4 h5 h6 h7 h8 hl
  cases ld
  · cases tr
    · skip
      cases h9 : quietB (⟨num, of, up, sf, dk, hn', hs', wn, ws, false, false, bal, yn, ys, bn, bs, an, as', hd⟩ : Rc) with
      | false =>
        have e : roleB (⟨num, of, up, sf, dk, hn', hs', wn, ws, false, false, bal, yn, ys, bn, bs, an, as', hd⟩ : Rc) = false := h9
        rw [e]
        exact iv9ff (⟨num, of, up, sf, dk, hn', hs', wn, ws, false, false, bal, yn, ys, bn, bs, an, as', hd⟩ : Rc) A w lo hi hhi hf hn hc h0 h1 h2 h3 h4 h5 h6 h7 h8 h9
      | true =>
        have e : roleB (⟨num, of, up, sf, dk, hn', hs', wn, ws, false, false, bal, yn, ys, bn, bs, an, as', hd⟩ : Rc) = true := h9
        rw [e]
        cases up
        · cases h10 : bareB (⟨num, of, false, sf, dk, hn', hs', wn, ws, false, false, bal, yn, ys, bn, bs, an, as', hd⟩ : Rc) with
          | false => exact iv10ff (⟨num, of, false, sf, dk, hn', hs', wn, ws, false, false, bal, yn, ys, bn, bs, an, as', hd⟩ : Rc) A w lo hi hhi hf hn hc h0 h1 h2 h3 h4 h5 h6 h7 h8 h9 h10
          | true => exact iv11bff (⟨num, of, false, sf, dk, hn', hs', wn, ws, false, false, bal, yn, ys, bn, bs, an, as', hd⟩ : Rc) A w lo hi hhi hf hn hc h0 h1 h2 h3 h4 h5 h6 h7 h8 h9 h10
        · exact iv11uff (⟨num, of, true, sf, dk, hn', hs', wn, ws, false, false, bal, yn, ys, bn, bs, an, as', hd⟩ : Rc) A w lo hi hhi hf hn hc h0 h1 h2 h3 h4 h5 h6 h7 h8 h9
    · skip
      cases h9 : tryB (⟨num, of, up, sf, dk, hn', hs', wn, ws, false, true, bal, yn, ys, bn, bs, an, as', hd⟩ : Rc) with
      | false =>
        have e : roleB (⟨num, of, up, sf, dk, hn', hs', wn, ws, false, true, bal, yn, ys, bn, bs, an, as', hd⟩ : Rc) = false := h9
        rw [e]
        exact iv9ft (⟨num, of, up, sf, dk, hn', hs', wn, ws, false, true, bal, yn, ys, bn, bs, an, as', hd⟩ : Rc) A w lo hi hhi hf hn hc h0 h1 h2 h3 h4 h5 h6 h7 h8 h9
      | true =>
        have e : roleB (⟨num, of, up, sf, dk, hn', hs', wn, ws, false, true, bal, yn, ys, bn, bs, an, as', hd⟩ : Rc) = true := h9
        rw [e]
        cases up
        · cases h10 : bareB (⟨num, of, false, sf, dk, hn', hs', wn, ws, false, true, bal, yn, ys, bn, bs, an, as', hd⟩ : Rc) with
          | false => exact iv10ft (⟨num, of, false, sf, dk, hn', hs', wn, ws, false, true, bal, yn, ys, bn, bs, an, as', hd⟩ : Rc) A w lo hi hhi hf hn hc h0 h1 h2 h3 h4 h5 h6 h7 h8 h9 h10
          | true => exact iv11bft (⟨num, of, false, sf, dk, hn', hs', wn, ws, false, true, bal, yn, ys, bn, bs, an, as', hd⟩ : Rc) A w lo hi hhi hf hn hc h0 h1 h2 h3 h4 h5 h6 h7 h8 h9 h10
        · exact iv11uft (⟨num, of, true, sf, dk, hn', hs', wn, ws, false, true, bal, yn, ys, bn, bs, an, as', hd⟩ : Rc) A w lo hi hhi hf hn hc h0 h1 h2 h3 h4 h5 h6 h7 h8 h9
  · cases tr
    · skip
      cases h9 : leadB (⟨num, of, up, sf, dk, hn', hs', wn, ws, true, false, bal, yn, ys, bn, bs, an, as', hd⟩ : Rc) with
      | false =>
        have e : roleB (⟨num, of, up, sf, dk, hn', hs', wn, ws, true, false, bal, yn, ys, bn, bs, an, as', hd⟩ : Rc) = false := h9
        rw [e]
        exact iv9tf (⟨num, of, up, sf, dk, hn', hs', wn, ws, true, false, bal, yn, ys, bn, bs, an, as', hd⟩ : Rc) A w lo hi hhi hf hn hc h0 h1 h2 h3 h4 h5 h6 h7 h8 h9
      | true =>
        have e : roleB (⟨num, of, up, sf, dk, hn', hs', wn, ws, true, false, bal, yn, ys, bn, bs, an, as', hd⟩ : Rc) = true := h9
        rw [e]
        cases up
        · cases h10 : bareB (⟨num, of, false, sf, dk, hn', hs', wn, ws, true, false, bal, yn, ys, bn, bs, an, as', hd⟩ : Rc) with
          | false => exact iv10tf (⟨num, of, false, sf, dk, hn', hs', wn, ws, true, false, bal, yn, ys, bn, bs, an, as', hd⟩ : Rc) A w lo hi hhi hf hn hc h0 h1 h2 h3 h4 h5 h6 h7 h8 h9 h10
          | true => exact iv11btf (⟨num, of, false, sf, dk, hn', hs', wn, ws, true, false, bal, yn, ys, bn, bs, an, as', hd⟩ : Rc) A w lo hi hhi hf hn hc h0 h1 h2 h3 h4 h5 h6 h7 h8 h9 h10
        · exact iv11utf (⟨num, of, true, sf, dk, hn', hs', wn, ws, true, false, bal, yn, ys, bn, bs, an, as', hd⟩ : Rc) A w lo hi hhi hf hn hc h0 h1 h2 h3 h4 h5 h6 h7 h8 h9
    · cases hl
theorem implValid_any (r : Rc) (A : RcA) (w : World) (lo hi : Nat) (hhi : hi ≤ w.heap.size) (hf : RcFit r) (hn : RcNew r A) (hc : RcIn w lo hi r A) :
    Calls Try.prog 70 #[rcV r A] w fun e w' => e = .returned (.bool (rcB r)) ∧ Below w.heap.size w w' := by
  cases hl : (r.ld && r.tr) with
  | false =>
    have e : rcB r = restB r := by simp only [rcB, hl, Bool.not_false, Bool.true_and]
    rw [e]
    exact implRest_any r A w lo hi hhi hf hn hc hl
  | true =>
    have e : rcB r = false := by simp only [rcB, hl, Bool.not_true, Bool.false_and]
    rw [e]
    rw [Bool.and_eq_true] at hl
    obtain ⟨num, of, up, sf, dk, hn', hs', wn, ws, ld, tr, bal, yn, ys, bn, bs, an, as', hd⟩ := r
    obtain ⟨h1, h2⟩ := hl
    dsimp only at h1 h2
    subst h1
    subst h2
    exact ivBoth ⟨num, of, up, sf, dk, hn', hs', wn, ws, true, true, bal, yn, ys, bn, bs, an, as', hd⟩ A w
end Go.Proofs.Ytjepponnhieocaa
