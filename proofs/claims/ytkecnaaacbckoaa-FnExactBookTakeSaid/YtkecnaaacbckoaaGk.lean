import Derived.Test.YtkecnaaacbckoaaGj
namespace Go.Proofs.Ytkecnaaacbckoaa
open Go.RowKit
set_option maxRecDepth 100000 in
set_option maxHeartbeats 2000000 in
theorem specObs_any (n : Nat) (x : Nat → Ob) (ad : Option Addr) (cap : Nat) (w : World) (lo hi : Nat) (hhi : hi ≤ w.heap.size) (hl : (n : Int) ≤ 1048576) (hf : ∀ i, i < n → ObFit (x i)) (hc : ObjsIn w lo hi ad n x) :
    Calls Try.prog 33 #[.slice ad n cap] w fun e w' => ∃ ad' cap' g A C hb, e = .returned (.slice ad' n cap') ∧ ObsAt w' ad' g n x A C hb ∧ (∀ q, blkH g n (fun i => (x i).hn) hb q → w.heap.size ≤ q) ∧ Below w.heap.size w w' := by
  obtain ⟨i0, hi0, hz0, hz1, hz2⟩ := info_parts Try.info50
  have HC := hid hc
  have HF := hid hf
  clear hc hf
  go_enter Try.func33, Try.ntmps33
  go_wp2
  have bd0 : BdOb (w.alloc (.cells #[] 50)) w.heap.size (.slice (some ⟨w.heap.size, 0, none⟩) 0 0) 0 x (fun _ => none) (fun _ => 0) (fun _ => 0) :=
    ⟨⟨fun _ => .int .i64 0, by simpa [rowCells] using World.ownsRow_made (base := w.heap.size) (e := 50) (size := 7) w #[] 0 (Nat.le_refl _) (Nat.zero_le _) rfl, fun i hi => absurd hi (Nat.not_lt_zero _)⟩, fun i hi => absurd hi (Nat.not_lt_zero _), fun i hi => absurd hi (Nat.not_lt_zero _), fun i hi => absurd hi (Nat.not_lt_zero _), fun i j hi => absurd hi (Nat.not_lt_zero _)⟩
  go_loopw [3, 4] (fun o i wr => ∃ (k : Nat) (A : Nat → Option Addr) (C hb : Nat → Nat), k ≤ n ∧ i = .int .i64 k ∧ Below w.heap.size w wr ∧ BdOb wr w.heap.size o k x A C hb) (fun _ i _ => n - (intOf i).toNat)
  case atStart => exact ⟨0, _, _, _, Nat.zero_le _, rfl, below_alloc _ _, bd0⟩
  case round =>
    clear bd0
    obtain ⟨k, A, C, hb, hk, rfl, b0, bd⟩ := hrel
    by_cases hkn : k < n
    · obtain ⟨b, off, ah, ch, rfl, hlo, hbh, hcx, hsx⟩ := HC.out k hkn
      have hfk := (HF.out k hkn).h
      obtain ⟨e0, e1, e2, e3, e4, e5, e6⟩ := hcx.below b0 (by omega)
      have HSX := hid (hsx.below b0 hhi)
      have zr := b0.size
      have BD := hid bd
      clear hcx hsx bd
      go_wp2_with fail
      refine (specOb_any (x k) ah ch _ lo hi (by omega) hfk HSX.out).mono ?_
      rintro e w1 ⟨ad', cap', rfl, hs1, hb1⟩
      obtain ⟨b', ho1, hl1⟩ := hs1.one
      have z1 := hb1.size
      have HO1 := hid ho1
      have HL1 := hid hl1
      have BD1 := hid ((BD.out.grow hb1).grow (below_alloc w1 (.cells #[.string (x k).kind, .string (x k).name, .int .i64 (x k).ver, .int .i64 (x k).born, .string (x k).text, .bool (x k).ending, .slice ad' (x k).hn cap'] 50)))
      obtain ⟨c, hown, hat⟩ := BD1.out.row
      have HAT := hid hat
      clear hs1 ho1 hl1 e0 e1 e2 e3 e4 e5 e6 hat
      go_wp2_with (at_builtin; go_must (refine wpList_append_own_at _ rfl _ _ 30 rfl w.heap.size 50 i0 _ 7 96 Try.underlying30 hi0 hz0 hz1 hz2 rfl (by decide) _ k (rowCells (k * 7) c) rfl hown ⟨w1.heap.size, 0, none⟩ 1 1 [.string (x k).kind, .string (x k).name, .int .i64 (x k).ver, .int .i64 (x k).born, .string (x k).text, .bool (x k).ending, .slice ad' (x k).hn cap'] rfl rfl (alloc_news w1 _ 50) (by simp [Value.oneCell']) (by unfold maxLen; omega) (by omega) (by simp; omega) ?_; intro v' w2 hown2 hgrow2 hnil2 hat2; clear hnil2))
      have hg2 := hgrow2.size
      have FB : ∀ o, FrP (fun _ => False) w1 (w1.alloc o) := fun o => FrP.of_below (below_alloc w1 o)
      have BD2 := hid (BD1.out.app (cap' := cap') HAT.out hown2 hgrow2 hat2 (HO1.out.frP (FB _) (fun h0 => ⟨fun h => h, (HL1.out h0).2⟩)) (fun h0 => ⟨by have := (HL1.out h0).1; omega, by have := (HL1.out h0).2; simp; omega⟩)
        (fun h0 e => by
          obtain ⟨c0, r0, _⟩ := BD.out.row
          have h1 := (r0.lt _ e).2
          have h2 := (HL1.out h0).1
          omega)
        (fun i hi h0 h1 e => by
          have h2 := (BD.out.hlt i hi h0).2
          have h3 := (HL1.out h1).1
          omega))
      have B2 : Below w.heap.size w w2 := by
        obtain ⟨c0, r0, _⟩ := BD.out.row
        exact ((b0.trans (hb1.mono zr)).alloc (by omega) _).trans ((FrP.of_grown hgrow2).below (fun q hq e => by have := (r0.lt q e).1; omega) (by simp; omega))
      clear hown hown2 hgrow2 hat2 FB
      go_wp2
      go_roundw
      case rel => exact ⟨k + 1, _, _, _, by omega, by go_num, B2, BD2.out⟩
      case measure => simp [intOf]; omega
    · have hke : k = n := by omega
      subst hke
      obtain ⟨ad', cap', g, e, at', hq⟩ := bd.done
      subst e
      have AT' := hid at'
      clear at' bd
      go_wp2
      go_ret
      exact ⟨ad', cap', g, A, C, hb, rfl, AT'.out, hq, b0⟩
end Go.Proofs.Ytkecnaaacbckoaa
