import Derived.Test.YtkecnaaacbckoaaTc
import Derived.Shelf.Spec.SlicesGrow
import Derived.Laws.AppendOwnNone
namespace Go.Proofs.Ytkecnaaacbckoaa
open Go.RowKit Go.Maps
theorem wpList_builtin_append {P : Program} {w w' : World} {ops : Array Oper} {rest : List Oper} {o : Oper} {a : Act} {Q : Exit → Act → World → Prop} (hgd : o.guard = none) (s x : Operand) (t t' : TypeId)
    (ho : o.op = .call { callee := .builtin .append, args := #[s, x], argTypes := #[t, t'] }) (u u' v : Value) (hs : a.eval s = u) (hx : a.eval x = u') (hrun : (Builtin.append_ #[t, t'] o.type #[u, u']).run P w = .ok v w')
    (h : wpList P ops Q rest (a.put o.dst v) w') : wpList P ops Q (o :: rest) a w := by
  refine wpList_plain hgd fun K hK => ?_
  unfold Oper.wp
  simp [execOp, ho, resolve, invoke, builtin, hs, hx, hrun, Result.andThen]
  exact hK _ _ h
set_option maxRecDepth 100000 in
set_option maxHeartbeats 1000000 in
theorem grow_any (n : Nat) (w : World) (h0 : 0 < n) (hn : (n : Int) ≤ 1099511627776) :
    Calls Try.prog 77 #[.slice none 0 0, .int .i64 n] w fun e w' => ∃ v, e = .returned v ∧ w'.ownsRow w.heap.size 50 7 v 0 [] ∧ Below w.heap.size w w' := by
  obtain ⟨i0, hi0, hz0, hz1, hz2⟩ := info_parts Try.info50
  have hrz : ∀ ty, ∃ G cur, n ≤ G ∧ G ≤ maxLen ∧ cur.size = G * 7 ∧ (Builtin.append_ #[30, 3] ty #[.slice none 0 0, .int .i64 (n : Int)]).run Try.prog w = .ok (.slice (some ⟨w.heap.size, 0, none⟩) n G) (w.drew.alloc (.cells cur 50)) := fun ty => by
    have h := Lib.run_append_grow_zeros w 30 3 ty 50 i0 _ .i64 .i64 Try.underlying30 Try.underlying3 hi0 hz0 none 0 0 [] (run_firstCells_none w.drew i0.size 0 0 0) n h0 (by omega) (by omega) (by omega) (by rw [hz2]; omega) (growslice_fits (by omega) (by rw [hz2]; omega))
    rw [Nat.zero_add] at h
    refine ⟨_, _, grownCap_ge w _ _ _, grownCap_le_maxLen w n 0 50 (by unfold maxLen; omega), ?_, h⟩
    have hG := grownCap_ge w n 0 50
    simp only [Array.size_append, Builtin.zeroCells, Array.size_map, Array.size_range]
    simp [Value.cells]
    omega
  obtain ⟨G, cur, hG1, hG2, hcur, hap⟩ := hrz 30
  have h63 : (G : Int) ≤ 9223372036854775807 := by unfold maxLen at hG2; omega
  have HC := hid hcur
  have HG := hid hG2
  have HAP := hid hap
  clear hap
  clear hcur hG2 hrz hi0 hz0 hz1 hz2
  go_enter Try.func77, Try.ntmps77
  go_wp2_with (at_builtin; go_must (refine wpList_builtin_append rfl _ _ 30 3 rfl _ _ _ rfl rfl HAP.out ?_))
  go_ret
  exact ⟨_, rfl, World.ownsRow_made (base := w.heap.size) (e := 50) (size := 7) w.drew cur G (Nat.le_refl _) HG.out HC.out, ((Below.refl _ _).drew).alloc (Nat.le_refl _) _⟩
/-- what lies in several lists, one behind the other -/
def flatN (f : Nat → List Value) : Nat → List Value | 0 => [] | k + 1 => flatN f k ++ f k
theorem sumTo_le {f : Nat → Nat} {k q : Nat} (h : k ≤ q) : sumTo f k ≤ sumTo f q := sumTo_mono f h
structure SrcN (w : World) (q : Nat) (A : Nat → Option Addr) (M C : Nat → Nat) (news : Nat → List Value) : Prop where
  len : ∀ j, j < q → (news j).length = M j * 7
  one : ∀ j, j < q → ∀ u ∈ news j, u.oneCell' = true
  src : ∀ j, j < q → (A j = none ∧ M j = 0 ∧ C j = 0) ∨ ∃ b off, A j = some ⟨b, off, none⟩ ∧ b < w.heap.size ∧ ∀ t u, (news j)[t]? = some u → w.cell? ⟨b, off + t, none⟩ = some u
set_option maxRecDepth 100000 in
set_option maxHeartbeats 2000000 in
theorem concat_any (q : Nat) (A : Nat → Option Addr) (M C : Nat → Nat) (news : Nat → List Value) (b : Nat) (w : World) (hb : b < w.heap.size) (hq : (q : Int) ≤ 1000) (hcell : ∀ j, j < q → w.cell? ⟨b, j, none⟩ = some (.slice (A j) (M j) (C j))) (hsrc : SrcN w q A M C news) (hs0 : 0 < sumTo M q) (hs1 : (sumTo M q : Int) ≤ 1099511627776) :
    Calls Try.prog 75 #[.slice (some ⟨b, 0, none⟩) q q] w fun e w' => ∃ v, e = .returned v ∧ w'.ownsRow w.heap.size 50 7 v (sumTo M q) (flatN news q) ∧ Below w.heap.size w w' := by
  obtain ⟨i0, hi0, hz0, hz1, hz2⟩ := info_parts Try.info50
  have HC := hid hcell
  have HS := hid hsrc
  have hmo : ∀ k, k ≤ q → sumTo M k ≤ sumTo M q := fun k hk => sumTo_mono M hk
  have HM := hid hmo
  clear hcell hsrc hmo
  go_enter Try.func75, Try.ntmps75
  go_wp2
  go_loopw [3, 5, 11] (fun s _ i wr => ∃ k : Nat, k ≤ q ∧ i = .int .i64 k ∧ s = .int .i64 (sumTo M k : Nat) ∧ wr = w) (fun _ _ i _ => q - (intOf i).toNat)
  case atStart => exact ⟨0, Nat.zero_le _, rfl, rfl, rfl⟩
  case round =>
    obtain ⟨k, hk, rfl, rfl, rfl⟩ := hrel
    by_cases hkq : k < q
    · have c0 := HC.out k hkq
      have hm := HM.out (k + 1) hkq
      have hms : sumTo M (k + 1) = sumTo M k + M k := rfl
      rw [hms] at hm
      have hkz : (k : Int) < q := by omega
      clear hms
      go_wp2
      go_roundw
      case rel => exact ⟨k + 1, hkq, by go_num, congrArg (Value.int .i64) (by show (_ : Int) = ((sumTo M k + M k : Nat) : Int); omega), trivial⟩
      case measure => simp [intOf]; omega
    · obtain rfl : k = q := by omega
      have hs2 : ¬ (sumTo M k : Int) < 0 := by omega
      go_wp2_with (go_at_call 77; go_must (refine (grow_any (sumTo M k) _ hs0 hs1).mono ?_; rintro e w1 ⟨v1, rfl, hown1, hb1⟩))
      have HO1 := hid hown1
      clear hown1
      obtain ⟨W0, hW0⟩ : ∃ W0, W0 = wr := ⟨_, rfl⟩
      subst hW0
      go_loopw [6, 8, 27] (fun v _ i wr => ∃ j : Nat, j ≤ k ∧ i = .int .i64 j ∧ Hid (wr.ownsRow W0.heap.size 50 7 v (sumTo M j) (flatN news j)) ∧ Below W0.heap.size W0 wr) (fun _ _ i _ => k - (intOf i).toNat)
      case atStart => exact ⟨0, Nat.zero_le _, rfl, HO1.out, hb1⟩
      case round =>
        clear HO1 hb1 hkq
        obtain ⟨j, hj, rfl, HOW, hbr⟩ := hrel
        by_cases hjk : j < k
        · have c0 := (hbr.cell (p := ⟨b, j, none⟩) hb).trans (HC.out j hjk)
          have hm := HM.out (j + 1) hjk
          have hms : sumTo M (j + 1) = sumTo M j + M j := rfl
          rw [hms] at hm
          have HMS := hid hms
          have hjz : (j : Int) < k := by omega
          have hbw : b < wr.heap.size := Nat.lt_of_lt_of_le hb hbr.size
          clear hms
          rcases HS.out.src j hjk with ⟨hA, hM0, hC0⟩ | ⟨sb, off, hA, hsb, hcs⟩
          · rw [hA, hM0, hC0] at c0
            have hnil : news j = [] := List.length_eq_zero_iff.1 (by rw [HS.out.len j hjk, hM0])
            have HN := hid hnil
            have HM0 := hid hM0
            clear hA hM0 hC0 hnil
            go_wp2_with (at_builtin; go_must (refine wpList_append_own_none rfl _ _ 30 rfl W0.heap.size 50 i0 7 Try.underlying30 hi0 _ (sumTo M j) (flatN news j) rfl HOW.out rfl ?_))
            go_roundw
            case rel => exact ⟨j + 1, hjk, by go_num, (show Hid _ from by
              show wr.ownsRow W0.heap.size 50 7 _ (sumTo M j + M j) (flatN news j ++ news j)
              rw [HN.out, HM0.out, List.append_nil]
              exact HOW.out), hbr⟩
            case measure => simp [intOf]; omega
          · rw [hA] at c0
            have HNW := hid (show ∀ t u, (news j)[t]? = some u → wr.cell? ((⟨sb, off, none⟩ : Addr).add t) = some u from fun t u h => by
              rw [Addr.add_lit]
              exact (hbr.cell (p := ⟨sb, off + t, none⟩) hsb).trans (hcs t u h))
            clear hcs hA
            go_wp2_with (at_builtin; go_must (refine wpList_append_own_at _ rfl _ _ 30 rfl W0.heap.size 50 i0 _ 7 96 Try.underlying30 hi0 hz0 hz1 hz2 rfl (by decide) _ (sumTo M j) (flatN news j) rfl HOW.out ⟨sb, off, none⟩ (M j) (C j) (news j) rfl (HS.out.len j hjk) HNW.out (HS.out.one j hjk) (by unfold maxLen; omega) (by omega) hbr.size ?_; intro v' w2 hown2 hgrow2 hnil2 hat2; clear hnil2 hat2))
            have B2 : Below W0.heap.size W0 w2 := hbr.trans ((FrP.of_grown hgrow2).below (fun q hq e => by have := (HOW.out.lt q e).1; omega) hbr.size)
            have HO2 : Hid (w2.ownsRow W0.heap.size 50 7 v' (sumTo M (j + 1)) (flatN news (j + 1))) := hown2
            clear hown2 hgrow2
            go_wp2
            go_roundw
            case rel => exact ⟨j + 1, hjk, by go_num, HO2, B2⟩
            case measure => simp [intOf]; omega
        · obtain rfl : j = k := by omega
          go_wp2
          go_ret
          exact ⟨_, rfl, HOW.out, hbr⟩
end Go.Proofs.Ytkecnaaacbckoaa
