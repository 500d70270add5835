import Derived.Test.YtcmimbohmninkaaGreatDoorPf
namespace Go.Proofs.YtcmimbohmninkaaGreatDoor
open Go.RowKit
def wt0 : Wt := ⟨⟨#[]⟩, ⟨#[]⟩, 0⟩
def wr0 : Wr := ⟨0, ⟨#[]⟩, ⟨#[]⟩, 0, ⟨#[]⟩, ⟨#[]⟩⟩
def cOf (cl : ByteArray) (nn : Int) (x : Wr) : Bc := ⟨cl, nn, 0, fun _ => wt0, 1, fun _ => x⟩
def c00 : Bc := ⟨⟨#[]⟩, 0, 0, fun _ => wt0, 0, fun _ => wr0⟩
/-- a number that was read out of a word -/
def NumOf (w : ByteArray) (r : Int) : Prop := (-1 ≤ r ∧ r ≤ 9999999) ∧ (∀ m : Nat, m ≤ 9999999 → w = dS m → r = m)
/-- what a text tells of the call whose form it is -/
structure Told (s cl : ByteArray) (nn : Int) (x : Wr) : Prop where
  w0 : wH (rN s 0) = cl
  w1 : wH (rN s 1) = dS nn.toNat
  w2 : wH (rN s 2) = dS x.op.toNat
  w3 : wH (rN s 3) = x.kind
  w4 : wH (rN s 4) = x.name
  w5 : wH (rN s 5) = dS x.seen.toNat
  w6 : wH (rN s 6) = holdS x.hold
  r7 : rN s 7 = quS x.text
  lt : ∀ k, k < 7 → wE (rN s k) < (rN s k).size
  n0 : 1 ≤ nn
  n1 : nn ≤ 1000000
  o0 : 1 ≤ x.op
  o1 : x.op ≤ 5
  s0 : 0 ≤ x.seen
  s1 : x.seen ≤ 1000000
  ho : x.hold ≠ ⟨#[42]⟩
  le : (s.size : Int) ≤ 100
theorem nameB_star : nameB ⟨#[42]⟩ = false := by decide
theorem noSp_star : NoSp (⟨#[42]⟩ : ByteArray) := by
  intro j hj
  have : j = 0 := by
    have e : (⟨#[42]⟩ : ByteArray).size = 1 := rfl
    omega
  subst this
  decide
theorem emB_is {s : ByteArray} (h : emB s = true) : s = ⟨#[]⟩ := of_decide_eq_true h
theorem told_of {s cl : ByteArray} {nn : Int} {x : Wr} (h : lfS (cOf cl nn x) = s) (hs : s ≠ ⟨#[]⟩) : Told s cl nn x := by
  unfold lfS at h
  by_cases hk : okB (cOf cl nn x) = true ∧ ((formC (cOf cl nn x)).size : Int) ≤ 100
  · rw [if_pos hk] at h
    obtain ⟨hok, hle⟩ := hk
    have O := okC_of hok
    simp only [okB, Bool.and_eq_true, decide_eq_true_eq] at hok
    obtain ⟨k1, _, _, _, k5, _⟩ := hok
    simp only [wrB, comB, Bool.and_eq_true, Bool.or_eq_true, decide_eq_true_eq] at k5
    obtain ⟨⟨m1, m2, _, _, m5⟩, _⟩ := k5
    have hho : NoSp (holdS x.hold) := by
      unfold holdS
      by_cases e : x.hold = ⟨#[]⟩
      · rw [if_pos e]
        exact noSp_star
      · rw [if_neg e]
        rcases m5 with e2 | e2
        · exact absurd (emB_is e2) e
        · exact noSp_name e2
    have hstar : x.hold ≠ ⟨#[42]⟩ := by
      intro e
      rcases m5 with e2 | e2
      · have : x.hold = ⟨#[]⟩ := emB_is e2
        rw [this] at e
        exact absurd e (by decide)
      · have e3 : nameB x.hold = true := e2
        rw [e, nameB_star] at e3
        cases e3
    have hN : ∀ k, k < 7 → NoSp (fF cl x.kind x.name (holdS x.hold) nn.toNat x.op.toNat x.seen.toNat k) := by
      intro k hk
      rcases (show k = 0 ∨ k = 1 ∨ k = 2 ∨ k = 3 ∨ k = 4 ∨ k = 5 ∨ k = 6 by omega) with rfl | rfl | rfl | rfl | rfl | rfl | rfl
      · exact noSp_name k1
      · exact noSp_dec _
      · exact noSp_dec _
      · exact noSp_name m1
      · exact noSp_name m2
      · exact noSp_dec _
      · exact hho
    have e : formS cl x.kind x.name (holdS x.hold) x.text nn.toNat x.op.toNat x.seen.toNat = s := h
    have hk := fun k (hk : k < 7) => wK_form (te := x.text) hN k hk
    have h7 := rN_form (te := x.text) hN 7 (Nat.le_refl _)
    rw [e] at hk h7
    refine ⟨(hk 0 (by omega)).1, (hk 1 (by omega)).1, (hk 2 (by omega)).1, (hk 3 (by omega)).1, (hk 4 (by omega)).1, (hk 5 (by omega)).1, (hk 6 (by omega)).1, h7, fun k hk7 => (hk k hk7).2, O.n0, O.n1, O.o0, O.o1, O.s0, O.s1, hstar, ?_⟩
    rw [← h]
    exact hle
  · rw [if_neg hk] at h
    exact absurd h.symm hs
/-- what was read loosely out of a text -/
structure Loose (s cl : ByteArray) (nn : Int) (x : Wr) : Prop where
  cl : cl = wH (rN s 0)
  nn : NumOf (wH (rN s 1)) nn
  op : NumOf (wH (rN s 2)) x.op
  ki : x.kind = wH (rN s 3)
  na : x.name = wH (rN s 4)
  se : NumOf (wH (rN s 5)) x.seen
  ho : x.hold = if wH (rN s 6) = ⟨#[42]⟩ then ⟨#[]⟩ else wH (rN s 6)
  te : ∀ te, rN s 7 = quS te → x.text = te
theorem NumOf.is {w : ByteArray} {r m : Int} (h : NumOf w r) (e : w = dS m.toNat) (h0 : 0 ≤ m) (h1 : m ≤ 1000000) : r = m := by
  have := h.2 m.toNat (by omega) e
  omega
theorem hold_back {h w : ByteArray} (e : w = holdS h) (hn : h ≠ ⟨#[42]⟩) : (if w = ⟨#[42]⟩ then ⟨#[]⟩ else w) = h := by
  subst e
  unfold holdS
  by_cases e : h = ⟨#[]⟩
  · rw [if_pos e, if_pos rfl, e]
  · rw [if_neg e, if_neg hn]
theorem Loose.is {s cl cl2 : ByteArray} {nn nn2 : Int} {x x2 : Wr} (h : Loose s cl nn x) (k : Told s cl2 nn2 x2) : cl2 = cl ∧ nn2 = nn ∧ x2 = x := by
  have a1 := h.nn.is k.w1 (by have := k.n0; omega) k.n1
  have a2 := h.op.is k.w2 (by have := k.o0; omega) (by have := k.o1; omega)
  have a3 := h.se.is k.w5 k.s0 k.s1
  have a4 := hold_back k.w6 k.ho
  have a5 := h.te _ k.r7
  refine ⟨by rw [h.cl, k.w0], a1.symm, ?_⟩
  obtain ⟨op, ki, na, se, te, ho⟩ := x
  obtain ⟨op2, ki2, na2, se2, te2, ho2⟩ := x2
  have b1 := h.ki
  have b2 := h.na
  have b3 := h.ho
  simp only at a2 a3 a4 a5 b1 b2 b3
  have b4 := k.w3
  have b5 := k.w4
  simp only at b4 b5
  rw [a2, a3, a5, b1, b2, b3, a4, b4, b5]
/-- what reading a text comes to -/
def Rd (s : ByteArray) (c : Bc) (b : Bool) : Prop := (b = true ∧ s ≠ ⟨#[]⟩ ∧ ∃ cl nn x, c = cOf cl nn x ∧ lfS c = s) ∨ (b = false ∧ c = c00 ∧ ∀ cl nn x, lfS (cOf cl nn x) = s → s = ⟨#[]⟩)
theorem Loose.no {s cl : ByteArray} {nn : Int} {x : Wr} (h : Loose s cl nn x) (hn : ¬ (s ≠ ⟨#[]⟩ ∧ lfS (cOf cl nn x) = s)) : Rd s c00 false := by
  refine Or.inr ⟨rfl, rfl, fun cl2 nn2 x2 e => ?_⟩
  by_cases hs : s = ⟨#[]⟩
  · exact hs
  · obtain ⟨rfl, rfl, rfl⟩ := h.is (told_of e hs)
    exact absurd ⟨hs, e⟩ hn
/-- a text has one reading -/
theorem rd_one {s cl : ByteArray} {nn : Int} {x : Wr} (h : Loose s cl nn x) {c c2 : Bc} {b b2 : Bool} (h1 : Rd s c b) (h2 : Rd s c2 b2) : c = c2 ∧ b = b2 := by
  rcases h1 with ⟨rfl, hs, cl1, nn1, x1, rfl, e1⟩ | ⟨rfl, rfl, n1⟩
  · rcases h2 with ⟨rfl, _, cl2, nn2, x2, rfl, e2⟩ | ⟨rfl, rfl, n2⟩
    · obtain ⟨rfl, rfl, rfl⟩ := h.is (told_of e1 hs)
      obtain ⟨rfl, rfl, rfl⟩ := h.is (told_of e2 hs)
      exact ⟨rfl, rfl⟩
    · exact absurd (n2 _ _ _ e1) hs
  · rcases h2 with ⟨rfl, hs, cl2, nn2, x2, rfl, e2⟩ | ⟨rfl, rfl, n2⟩
    · exact absurd (n1 _ _ _ e2) hs
    · exact ⟨rfl, rfl⟩
end Go.Proofs.YtcmimbohmninkaaGreatDoor
