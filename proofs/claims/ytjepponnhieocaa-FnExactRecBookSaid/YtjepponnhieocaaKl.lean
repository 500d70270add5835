import Derived.RangeFuncNested
import Derived.RangeFuncBound
import Derived.RangeFuncCalls
import Derived.RangeFuncLeaves
import Derived.RangeFuncBox
import Derived.Shelf.Abstract
import Derived.Shelf.RegionOpen
import Derived.WalkKit
import Derived.OwnWalkIn
import Derived.TacticsInMore
import Derived.LoopNIn
import Derived.LoopIn
import Derived.Maps.AppendAt
import Derived.Test.YtjepponnhieocaaCf
import Derived.Test.YtjepponnhieocaaSb
namespace Go.Proofs.Ytjepponnhieocaa
open Go.RowKit Go.Shelf
attribute [local go_sem] Oper.semAt_some
theorem grown_of_below {w w' : World} (h : Below w.heap.size w w') : w.grownBy w' none := ⟨h.os, h.tape, h.output, h.size, fun k hk _ => h.block k hk⟩
/-- an index of a list -/
abbrev Ix (n : Nat) := { k : Nat // k < n }
def ixs {n : Nat} (l : List (Ix n)) : List Nat := l.map (·.1)
theorem ixs_snoc {n : Nat} (l : List (Ix n)) (k : Ix n) : ixs (l ++ [k]) = ixs l ++ [k.1] := by simp [ixs]
theorem ixs_len {n : Nat} (l : List (Ix n)) : (ixs l).length = l.length := by simp [ixs]
set_option maxRecDepth 100000 in
set_option maxHeartbeats 2000000 in
theorem knownTexts_in (F : Fence) (m : Nat) (hf : F.fn 58) (hro : F.round = none) (d : Dk) (ad : Option Addr) (cap : Nat) (w : World) :
    CallsIn F m Try.prog 58 #[dkV d ad cap] w fun e w' => e = .returned (.func (.func 102) #[] #[.pointer (some ⟨w.heap.size, 0, none⟩)]) ∧ w' = w.alloc (.cells #[.int .i64 d.pr, .int .i64 d.kn, .slice ad d.n cap] 55) := by
  refine callsIn_of_wp Try.func58 rfl hf ?_ hro
  simp only [Try.ntmps58, List.size_toArray, List.length_cons, List.length_nil, Nat.reduceAdd, Nat.reduceSub, Array.replicate_succ, Array.replicate_zero, List.push_toArray, List.append_toArray, List.nil_append, List.cons_append]
  gi_wp2
  go_ret
  exact ⟨rfl, rfl⟩
set_option maxRecDepth 100000 in
set_option maxHeartbeats 4000000 in
theorem knownWalk_in (F : Fence) (m : Nat) (hcv : ∀ (k f : Nat) (args : Array Value) (w : World) (R : Ending → World → Prop), Calls Try.prog f args w R → CallsIn F k Try.prog f args w R) (hcl : F.fn 102) (hks : F.fn 103) (hro : F.round = none) (hm : 1 ≤ m) (l Bd hi : Nat) (Pk : Nat → Prop) (d : Dk) (gd cap k0 : Nat) (hk0 : d.kn = k0) (hkn : k0 ≤ d.n) (hcap : d.n ≤ cap) (hl : (d.n : Int) ≤ 1048576) (J Jx : List (Ix k0) → World → Prop)
    (W : World) (hJ : AbidesFrom W.heap.size J)
    (hY : ∀ pre x' W1, J pre W1 → pre.length < k0 → YieldAt F (m - 1) Try.prog l #[.int .i64 ((x'.1 : Int) + 1), .string (d.s x'.1).text] W1 fun e W' =>
      (e = .returned (.bool true) ∧ J (pre ++ [x']) W' ∧ FrP Pk W1 W') ∨ (e = .returned (.bool false) ∧ Jx (pre ++ [x']) W'))
    (b0 : W.cell? ⟨Bd, 0, none⟩ = some (.int .i64 d.pr)) (b1 : W.cell? ⟨Bd, 1, none⟩ = some (.int .i64 d.kn)) (b2 : W.cell? ⟨Bd, 2, none⟩ = some (.slice (some ⟨gd, 0, none⟩) d.n cap))
    (hhi : hi ≤ W.heap.size) (hPk : ∀ q, q < hi → ¬ Pk q) (hs : SlsIn W 0 hi (some ⟨gd, 0, none⟩) d.n d.s) (h0 : J [] W) :
    CallsIn F m Try.prog 102 #[.func (.yield l) #[] #[], .pointer (some ⟨Bd, 0, none⟩)] W fun e W' => (∃ v, e = .returned v) ∧
      ((∃ ys, ixs ys = List.range k0 ∧ J ys W') ∨ (∃ pre, True ∧ Jx pre W')) := by
  refine callsIn_of_wp Try.func102 rfl hcl ?_ hro
  simp only [Try.ntmps102, List.size_toArray, List.length_cons, List.length_nil, Nat.reduceAdd, Nat.reduceSub, Array.replicate_succ, Array.replicate_zero, List.push_toArray, List.append_toArray, List.nil_append, List.cons_append]
  have HS := hid hs
  have HY := hid hY
  have HK0 := hid hk0
  have hKN := hid (hcv (m - 1) _ _ _ _ (known_any d (some ⟨gd, 0, none⟩) cap W (by omega) (by omega) hcap ⟨gd, Or.inl rfl⟩))
  have hkt : d.kn.toNat = k0 := by omega
  rw [hkt] at hKN
  clear hs hY hk0 hkt
  gi_wp2_with (gi_at_call 103; go_must (refine hKN.out.mono ?_; rintro e w1 ⟨cap', rfl, hb1⟩))
  clear b0 b1 b2 hKN
  have hJ1 := hJ [] W w1 none h0 (grown_of_below hb1) (fun r e => by cases e)
  gi_loopw [8] (fun i wr => ∃ (k : Nat) (pre : List (Ix k0)), k ≤ k0 ∧ i = .int .i64 k ∧ ixs pre = List.range k ∧ J pre wr ∧ FrP Pk W wr)
    (fun i _ => k0 - (intOf i).toNat)
  case atStart => exact ⟨0, [], Nat.zero_le _, rfl, rfl, hJ1, FrP.of_below hb1⟩
  case round =>
    obtain ⟨k, pre, hkn', rfl, hpre, hJs, hf⟩ := hrel
    by_cases hlt : k < k0
    · obtain ⟨b, off, e, _, hbh, hcx⟩ := HS.out k (by omega)
      obtain ⟨rfl, rfl⟩ : gd = b ∧ 0 = off := by simpa using e
      clear e
      have hbw : Below hi W wr := hf.below hPk hhi
      obtain ⟨e0, e1⟩ := hcx.below hbw hbh
      simp only [Nat.zero_add] at e0 e1
      have hpl : pre.length < k0 := by
        have h1 := ixs_len pre
        rw [hpre, List.length_range] at h1
        omega
      have HN := hid (show ixs (pre ++ [⟨k, hlt⟩]) = List.range (k + 1) by rw [ixs_snoc, hpre, List.range_succ])
      have hgw : gd < wr.heap.size := by have := hf.size; omega
      obtain ⟨fn, tmps, assign, body, hy, hR⟩ := HY.out pre ⟨k, hlt⟩ (wr.alloc (.cells #[.int .i64 (d.s k).bal, .string (d.s k).text] 100)) (hJ pre wr _ none hJs (grown_of_below (below_alloc _ _)) (fun r e => by cases e)) hpl
      dsimp only at hy
      have HF := hid (hf.trans (FrP.of_below (P := Pk) (below_alloc wr (.cells #[.int .i64 (d.s k).bal, .string (d.s k).text] 100))))
      clear hJs hpre hcx
      gi_wp2
      refine hR.mono ?_
      rintro e W3 (⟨rfl, hJ3, hk3⟩ | ⟨rfl, hJx3⟩)
      · gi_wp2
        go_roundw
        case rel => exact ⟨k + 1, pre ++ [⟨k, hlt⟩], by omega, by go_num, HN.out, hJ3, HF.out.trans hk3⟩
        case measure => simp [intOf]; omega
      · gi_wp2
        refine bodyPost_ret (results_none rfl _ _ _) rfl ?_
        exact ⟨⟨_, rfl⟩, .inr ⟨pre ++ [⟨k, hlt⟩], trivial, hJx3⟩⟩
    · obtain rfl : k = k0 := by omega
      gi_wp2
      go_end0
      exact ⟨⟨_, rfl⟩, .inl ⟨_, hpre, hJs⟩⟩
end Go.Proofs.Ytjepponnhieocaa
