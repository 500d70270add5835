import Derived.RangeFuncNested
import Derived.RangeFuncBound
import Derived.RangeFuncCalls
import Derived.RangeFuncLeaves
import Derived.Shelf.Abstract
import Derived.Shelf.RegionOpen
import Derived.WalkKit
import Derived.OwnWalkIn
import Derived.TacticsInMore
import Derived.LoopNIn
import Derived.LoopIn
import Derived.Test.YtkecnaaacbckoaaGreatLb
namespace Go.Proofs.YtkecnaaacbckoaaGreat
open Go.RowKit Go.Shelf
attribute [local go_sem] Oper.semAt_some
theorem grown_of_below {w w' : World} (h : Below w.heap.size w w') : w.grownBy w' none := ⟨h.os, h.tape, h.output, h.size, fun k hk _ => h.block k hk⟩
/-- the objects of a list, with the slices of their holds told -/
structure ObSrc (w : World) (hi : Nat) (ad : Option Addr) (n : Nat) (x : Nat → Ob) (A : Nat → Option Addr) (C : Nat → Nat) : Prop where
  cells : ∀ i, i < n → ∃ b off, ad = some ⟨b, off, none⟩ ∧ b < hi ∧ ObCells w b (off + i * 7) (x i) (A i) (C i)
  holds : ∀ i, i < n → StrsIn w 0 hi (A i) (x i).hn (x i).hs
theorem ObjsIn.choose {w : World} {lo hi : Nat} {ad : Option Addr} {n : Nat} {x : Nat → Ob} (h : ObjsIn w lo hi ad n x) : ∃ A C, ObSrc w hi ad n x A C := by
  have h1 : ∀ i, ∃ q : Option Addr × Nat, i < n → ∃ b off, ad = some ⟨b, off, none⟩ ∧ b < hi ∧ ObCells w b (off + i * 7) (x i) q.1 q.2 ∧ StrsIn w 0 hi q.1 (x i).hn (x i).hs := fun i => by
    by_cases hi' : i < n
    · obtain ⟨b, off, ah, ch, e1, _, e3, e4, e5⟩ := h i hi'
      exact ⟨(ah, ch), fun _ => ⟨b, off, e1, e3, e4, fun j hj => by obtain ⟨b2, o2, f1, _, f3, f4⟩ := e5 j hj; exact ⟨b2, o2, f1, Nat.zero_le _, f3, f4⟩⟩⟩
    · exact ⟨(none, 0), fun h => absurd h hi'⟩
  obtain ⟨q, hq⟩ := Classical.skolem.1 h1
  exact ⟨fun i => (q i).1, fun i => (q i).2, ⟨fun i hi' => by obtain ⟨b, off, e1, e2, e3, _⟩ := hq i hi'; exact ⟨b, off, e1, e2, e3⟩, fun i hi' => by obtain ⟨b, off, _, _, _, e⟩ := hq i hi'; exact e⟩⟩
theorem ObSrc.frP {w w' : World} {hi : Nat} {ad : Option Addr} {n : Nat} {x : Nat → Ob} {A : Nat → Option Addr} {C : Nat → Nat} {P : Nat → Prop} (h : ObSrc w hi ad n x A C) (hf : FrP P w w') (hp : ∀ q, q < hi → ¬ P q) (hhi : hi ≤ w.heap.size) : ObSrc w' hi ad n x A C := by
  have hb : Below hi w w' := hf.below hp hhi
  exact ⟨fun i hi' => by obtain ⟨b, off, e1, e2, e3⟩ := h.cells i hi'; exact ⟨b, off, e1, e2, e3.below hb e2⟩, fun i hi' => (h.holds i hi').below hb (Nat.le_refl _)⟩
/-- an index of a list -/
abbrev Ix (n : Nat) := { k : Nat // k < n }
def obV (x : Ob) (a : Option Addr) (c : Nat) : Value := .agg #[.string x.kind, .string x.name, .int .i64 x.ver, .int .i64 x.born, .string x.text, .bool x.ending, .slice a x.hn c]
def ixs {n : Nat} (l : List (Ix n)) : List Nat := l.map (·.1)
theorem ixs_snoc {n : Nat} (l : List (Ix n)) (k : Ix n) : ixs (l ++ [k]) = ixs l ++ [k.1] := by simp [ixs]
theorem ixs_len {n : Nat} (l : List (Ix n)) : (ixs l).length = l.length := by simp [ixs]
set_option maxRecDepth 100000 in
set_option maxHeartbeats 2000000 in
theorem walk1_in (F : Fence) (m : Nat) (h51 : F.fn 143) (h52 : F.fn 74) (hro : F.round = none) (hm : 1 ≤ m) (l Bo Bk Bp hi : Nat) (Pk : Nat → Prop) (n : Nat) (x : Nat → Ob) (ad : Option Addr) (cap : Nat) (A : Nat → Option Addr) (C : Nat → Nat) (ki pr : ByteArray) (hl : (n : Int) ≤ 1048576) (J Jx : List (Ix n) → World → Prop)
    (hIs : ∀ (i : Nat) (w : World), i < n → CallsIn F (m - 1) Tryz.prog 74 #[obV (x i) (A i) (C i), .string ki, .string pr] w fun e w' => e = .returned (.bool (lkB (x i) ki pr)) ∧ Below w.heap.size w w')
    (W : World) (hJ : AbidesFrom W.heap.size J)
    (hY : ∀ pre x' W1, J pre W1 → pre.length < n → YieldAt F (m - 1) Tryz.prog l #[obV (x x'.1) (A x'.1) (C x'.1)] W1 fun e W' =>
      (e = .returned (.bool true) ∧ J (pre ++ [x']) W' ∧ FrP Pk W1 W') ∨ (e = .returned (.bool false) ∧ Jx (pre ++ [x']) W'))
    (hBo : W.cell? ⟨Bo, 0, none⟩ = some (.slice ad n cap)) (hBk : W.cell? ⟨Bk, 0, none⟩ = some (.string ki)) (hBp : W.cell? ⟨Bp, 0, none⟩ = some (.string pr))
    (hk : Bk < W.heap.size ∧ ¬ Pk Bk) (hp : Bp < W.heap.size ∧ ¬ Pk Bp) (hhi : hi ≤ W.heap.size) (hPk : ∀ q, q < hi → ¬ Pk q) (hs : ObSrc W hi ad n x A C) (h0 : J [] W) :
    CallsIn F m Tryz.prog 143 #[.func (.yield l) #[] #[], .pointer (some ⟨Bo, 0, none⟩), .pointer (some ⟨Bk, 0, none⟩), .pointer (some ⟨Bp, 0, none⟩)] W fun e W' => (∃ v, e = .returned v) ∧
      ((∃ ys, ixs ys = flt (fun i => lkB (x i) ki pr) n ∧ J ys W') ∨ (∃ pre, True ∧ Jx pre W')) := by
  refine callsIn_of_wp Tryz.func143 rfl h51 ?_ hro
  simp only [Tryz.ntmps143, List.size_toArray, List.length_cons, List.length_nil, Nat.reduceAdd, Nat.reduceSub, Array.replicate_succ, Array.replicate_zero, List.push_toArray, List.append_toArray, List.nil_append, List.cons_append]
  have HS := hid hs
  clear hs
  gi_wp2
  gi_loopw [9] (fun i wr => ∃ (k : Nat) (pre : List (Ix n)), k ≤ n ∧ i = .int .i64 k ∧ ixs pre = flt (fun i => lkB (x i) ki pr) k ∧ J pre wr ∧ FrP Pk W wr)
    (fun i _ => n - (intOf i).toNat)
  case atStart => exact ⟨0, [], Nat.zero_le _, rfl, rfl, h0, FrP.refl _ _⟩
  case round =>
    obtain ⟨k, pre, hkn, rfl, hpre, hJs, hf⟩ := hrel
    have hck : wr.cell? ⟨Bk, 0, none⟩ = some (.string ki) := (hf.cell (p := ⟨Bk, 0, none⟩) hk.1 hk.2).trans hBk
    have hcp : wr.cell? ⟨Bp, 0, none⟩ = some (.string pr) := (hf.cell (p := ⟨Bp, 0, none⟩) hp.1 hp.2).trans hBp
    by_cases hlt : k < n
    · obtain ⟨b, off, rfl, hbh, hcx⟩ := HS.out.cells k hlt
      have hbw : Below hi W wr := hf.below hPk hhi
      obtain ⟨e0, e1, e2, e3, e4, e5, e6⟩ := hcx.below hbw hbh
      have hI := hIs k
      unfold obV at hI
      have zr := hf.size
      have hck' : ∀ o, (wr.alloc o).cell? ⟨Bk, 0, none⟩ = some (.string ki) := fun o => (World.cell?_alloc_past _ _ _ (by have := hk.1; simp; omega)).trans hck
      have hcp' : ∀ o, (wr.alloc o).cell? ⟨Bp, 0, none⟩ = some (.string pr) := fun o => (World.cell?_alloc_past _ _ _ (by have := hp.1; simp; omega)).trans hcp
      have HY := hid hY
      clear hY hIs
      have hpl : pre.length < n := by
        have h1 := ixs_len pre
        rw [hpre] at h1
        have h2 := flt_len (fun i => lkB (x i) ki pr) k
        omega
      cases hlk : lkB (x k) ki pr with
      | false =>
        simp only [hlk] at hI
        have HN := hid (show ixs pre = flt (fun i => lkB (x i) ki pr) (k + 1) from hpre.trans (flt_no hlk).symm)
        clear HY
        gi_wp2_with (gi_at_call 74; go_must (refine (hI _ hlt).mono ?_; rintro e w1 ⟨rfl, hb1⟩; have hbw1 : Below wr.heap.size wr w1 := (below_alloc wr _).trans (hb1.mono (by simp)); clear e0 e1 e2 e3 e4 e5 e6))
        refine ⟨fun _ h => (by cases h), ?_⟩
        gi_wp2
        go_roundw
        case rel => exact ⟨k + 1, pre, by omega, by go_num, HN.out, hJ pre wr w1 none hJs (grown_of_below hbw1) (fun r e => by cases e), hf.trans (FrP.of_below hbw1)⟩
        case measure => simp [intOf]; omega
      | true =>
        simp only [hlk] at hI
        have HN := hid (show ixs (pre ++ [⟨k, hlt⟩]) = flt (fun i => lkB (x i) ki pr) (k + 1) from (ixs_snoc _ _).trans ((congrArg (· ++ [k]) hpre).trans (flt_yes hlk).symm))
        gi_wp2_with (gi_at_call 74; go_must (refine (hI _ hlt).mono ?_; rintro e w1 ⟨rfl, hb1⟩; have hbw1 : Below wr.heap.size wr w1 := (below_alloc wr _).trans (hb1.mono (by simp)); clear e0 e1 e2 e3 e4 e5 e6; obtain ⟨q0, q1, q2, q3, q4, q5, q6⟩ := holds_ob ((holds_new wr (obCells (x k) (A k) (C k)) 73).below hb1 (by simp)); obtain ⟨fn, tmps, assign, body, hy, hR⟩ := HY.out pre ⟨k, hlt⟩ w1 (hJ pre wr w1 none hJs (grown_of_below hbw1) (fun r e => by cases e)) hpl; unfold obV at hy; dsimp only at hy))
        refine hR.mono ?_
        rintro e W3 (⟨rfl, hJ3, hk3⟩ | ⟨rfl, hJx3⟩)
        · gi_wp2
          go_roundw
          case rel => exact ⟨k + 1, pre ++ [⟨k, hlt⟩], by omega, by go_num, HN.out, hJ3, (hf.trans (FrP.of_below hbw1)).trans hk3⟩
          case measure => simp [intOf]; omega
        · gi_wp2
          refine bodyPost_ret (results_none rfl _ _ _) rfl ?_
          exact ⟨⟨_, rfl⟩, .inr ⟨pre ++ [⟨k, hlt⟩], trivial, hJx3⟩⟩
    · obtain rfl : k = n := by omega
      gi_wp2
      go_end0
      exact ⟨⟨_, rfl⟩, .inl ⟨_, hpre, hJs⟩⟩
end Go.Proofs.YtkecnaaacbckoaaGreat
