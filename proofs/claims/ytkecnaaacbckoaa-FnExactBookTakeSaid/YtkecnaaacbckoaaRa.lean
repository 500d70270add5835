import Derived.Test.YtkecnaaacbckoaaL
import Derived.Test.YtkecnaaacbckoaaGw
import Derived.Test.YtkecnaaacbckoaaLb
import Derived.Test.YtkecnaaacbckoaaGk
namespace Go.Proofs.Ytkecnaaacbckoaa
open Go.RowKit Go.Maps
/-- a mirror -/
structure Mr where
  kind : ByteArray
  pre : ByteArray
  at_ : Int
  n : Nat
  os : Nat → Ob
  seen : Int
structure MrFit (m : Mr) : Prop where
  k : (m.kind.size : Int) ≤ 140737488355328
  p : (m.pre.size : Int) ≤ 140737488355328
  n : (m.n : Int) ≤ 8796093022208
  os : ∀ i, i < m.n → ObFit (m.os i)
def szMr (m : Mr) : Nat := m.kind.size + m.pre.size + szObs m.n m.os
set_option maxRecDepth 100000 in
set_option maxHeartbeats 400000 in
theorem szMr_any (m : Mr) (a : Option Addr) (c : Nat) (left : Int) (w : World) (h0 : 0 ≤ left) (h1 : left ≤ 1048576) (lo hi : Nat) (hhi : hi ≤ w.heap.size) (hf : MrFit m) (hc : ObjsIn w lo hi a m.n m.os) :
    Calls Try.prog 4 #[.agg #[.string m.kind, .string m.pre, .int .i64 m.at_, .slice a m.n c, .int .i64 m.seen], .int .i64 left] w fun e w' => e = .returned (.int .i64 (szOut left (szMr m))) ∧ Below w.heap.size w w' := by
  obtain ⟨f1, f2, f3, f4⟩ := hf
  have hc1 := hc.below (below_alloc w (.cells #[.string m.kind, .string m.pre, .int .i64 m.at_, .slice a m.n c, .int .i64 m.seen] 24)) hhi
  clear hc
  unfold szMr
  go_enter Try.func4, Try.ntmps4
  go_wp2_with (go_at_call 15; go_must (refine (szObs_any m.n m.os a c _ _ lo hi (by simp; omega) f3 (by omega) (by omega) f4 (hc1)).mono ?_; rintro e w1 ⟨rfl, hb1⟩))
  · go_ret
    exact ⟨ret_int (szOut_no (by omega)).symm, below_alloc _ _⟩
  · go_ret
    exact ⟨ret_int (szOut_no (by omega)).symm, below_alloc _ _⟩
  · go_ret
    exact ⟨ret_int (szOut_no (by have := szOut_lt (by assumption); omega)).symm, (below_alloc _ _).trans (hb1.mono (by simp))⟩
  · go_ret
    obtain ⟨g1, g2⟩ := szOut_ge (l := left - m.kind.size - m.pre.size) (s := szObs m.n m.os) (by omega)
    exact ⟨ret_int (by have h := szOut_yes (left := left) (s := m.kind.size + m.pre.size + szObs m.n m.os) (by omega); omega), (below_alloc _ _).trans (hb1.mono (by simp))⟩
set_option maxRecDepth 100000 in
set_option maxHeartbeats 800000 in
theorem toMr_any (m : Mr) (a : Option Addr) (c : Nat) (w : World) (lo hi : Nat) (hhi : hi ≤ w.heap.size) (hn : (m.n : Int) ≤ 1099511627776) (hf : ∀ i, i < m.n → ObFit (m.os i)) (hc : ObjsIn w lo hi a m.n m.os) :
    Calls Try.prog 7 #[.agg #[.string m.kind, .string m.pre, .int .i64 m.at_, .slice a m.n c, .int .i64 m.seen]] w fun e w' => ∃ g d A C hb, e = .returned (.agg #[.string m.kind, .string m.pre, .int .i64 m.at_, .slice (some ⟨g, 0, none⟩) m.n d, .int .i64 m.seen]) ∧ ObsAt w' (some ⟨g, 0, none⟩) g m.n m.os A C hb ∧ (∀ q, blkH g m.n (fun i => (m.os i).hn) hb q → w.heap.size ≤ q) ∧ Below w.heap.size w w' := by
  go_enter Try.func7, Try.ntmps7
  go_wp2_with fail
  refine (toObs_any m.n m.os a c _ lo hi (by simp; omega) hn hf (hc.below (B := w.heap.size) ((((Below.refl _ _).alloc (Nat.le_refl _) _).alloc (by simp) _).alloc (by simp; omega) _) hhi)).mono ?_
  rintro e w1 ⟨d1, r1, rfl, ho1, hb1⟩
  have hB1 : Below w.heap.size w w1 := ((((Below.refl _ _).alloc (Nat.le_refl _) _).alloc (by simp) _).alloc (by simp; omega) _).trans (hb1.mono (by simp; omega))
  have hz1 : w.heap.size + 2 < w1.heap.size := by have := hb1.size; simp at this; omega
  obtain ⟨A0, A1, A2, F1, F2⟩ := three_cell hb1
  have b3 := A0 3
  have b4 := A0 4
  have p0 := A1 0
  have p1 := A1 1
  have p2 := A1 2
  have p3 := A1 3
  have p4 := A1 4
  have o0 := A2 0
  have o1 := A2 1
  have o2 := A2 2
  have o3 := A2 3
  have o4 := A2 4
  simp only [List.getElem?_toArray, List.getElem?_cons_succ, List.getElem?_cons_zero] at b3 b4 p0 p1 p2 p3 p4 o0 o1 o2 o3 o4
  simp only [World.size_alloc] at ho1 ⊢
  clear A0 A1 A2 hb1
  have HO1 := hid ho1
  clear ho1
  go_wp2
  refine bodyPost_ret (v := .agg #[.string m.kind, .string m.pre, .int .i64 m.at_, .slice (some ⟨w.heap.size + 1 + 1 + 1, 0, none⟩) m.n d1, .int .i64 m.seen]) (by simp [results, Try.results7, go_sem, p0, p1, p2, p3, p4]) rfl ?_
  have hT : Fr w.heap.size (w.heap.size + 3) w1 ((((((((w1.setCell ⟨w.heap.size + 1 + 1, 3, none⟩ (.slice (some ⟨w.heap.size + 1 + 1 + 1, 0, none⟩) m.n d1)).setCell ⟨w.heap.size + 1 + 1, 4, none⟩ (.int .i64 m.seen)).setCell ⟨w.heap.size + 1, 0, none⟩ (.string m.kind)).setCell ⟨w.heap.size + 1, 1, none⟩ (.string m.pre)).setCell ⟨w.heap.size + 1, 2, none⟩ (.int .i64 m.at_)).setCell ⟨w.heap.size + 1, 3, none⟩ (.slice (some ⟨w.heap.size + 1 + 1 + 1, 0, none⟩) m.n d1)).setCell ⟨w.heap.size + 1, 4, none⟩ (.int .i64 m.seen))) := by
    iterate 7 refine Fr.setCell ?_ (by simp; try omega) (by simp; try omega) _
    exact Fr.refl _ _ _
  obtain ⟨A, C, hb, at', hq⟩ := (HO1.out.fr hT (Or.inr (by omega))).at
  have x1 := HO1.out.r0
  refine ⟨_, d1, A, C, hb, rfl, at', fun q hq' => ?_, hB1.trans (Fr.below (lo := w.heap.size) (hi := w.heap.size + 3) hT (Nat.le_refl _) hB1.size)⟩
  have := hq q hq'
  omega
set_option maxRecDepth 100000 in
set_option maxHeartbeats 400000 in
theorem eqMr_any (m : Mr) (a b : Option Addr) (c d : Nat) (w : World) (lo hi lo2 hi2 : Nat) (hh : hi ≤ w.heap.size) (hh2 : hi2 ≤ w.heap.size) (hn : (m.n : Int) ≤ 140737488355328) (hf : ∀ i, i < m.n → ((m.os i).hn : Int) ≤ 140737488355328) (hc : ObjsIn w lo hi a m.n m.os) (hc2 : ObjsIn w lo2 hi2 b m.n m.os) :
    Calls Try.prog 10 #[.agg #[.string m.kind, .string m.pre, .int .i64 m.at_, .slice a m.n c, .int .i64 m.seen], .agg #[.string m.kind, .string m.pre, .int .i64 m.at_, .slice b m.n d, .int .i64 m.seen]] w fun e w' => e = .returned (.bool true) ∧ Below w.heap.size w w' := by
  go_enter Try.func10, Try.ntmps10
  go_wp2_with fail
  refine (eqObs_any m.n m.os a b c d _ lo hi lo2 hi2 (by simp; omega) (by simp; omega) hn hf (hc.below (B := w.heap.size) ((below_alloc _ _).alloc (by simp) _) hh) (hc2.below (B := w.heap.size) ((below_alloc _ _).alloc (by simp) _) hh2)).mono ?_
  rintro e w1 ⟨rfl, hb1⟩
  have hB1 : Below w.heap.size w w1 := ((below_alloc _ _).alloc (by simp) _).trans (hb1.mono (by simp; omega))
  obtain ⟨A0, A1, _, _⟩ := two_cell hb1
  have u4 := A0 4
  have v4 := A1 4
  simp only [List.getElem?_toArray, List.getElem?_cons_succ, List.getElem?_cons_zero] at u4 v4
  clear A0 A1 hb1
  go_wp2
  go_ret
  exact ⟨rfl, hB1⟩
set_option maxRecDepth 100000 in
theorem markMr_own (m : Mr) (ad : Option Addr) (g : Nat) (A : Nat → Option Addr) (C hb : Nat → Nat) (c k0 : Nat) (w : World) (hl : (m.n : Int) ≤ 1048576) (hk1 : 1 ≤ (k0 : Int)) (hk2 : (mkObs k0 m.os m.n : Int) ≤ 1073741824) (hc : ObsAt w ad g m.n m.os A C hb) :
    Calls Try.prog 12 #[.agg #[.string m.kind, .string m.pre, .int .i64 m.at_, .slice ad m.n c, .int .i64 m.seen], .int .i64 k0] w fun e w' => e = .returned (.int .i64 (mkObs k0 m.os m.n)) ∧ ObsAt w' ad g m.n (ykOb k0 m.os m.n) A C hb ∧ FrP (blkH g m.n (fun i => (m.os i).hn) hb) w w' := by
  have HC := hid (hc.grow (below_alloc w (.cells #[.string m.kind, .string m.pre, .int .i64 m.at_, .slice ad m.n c, .int .i64 m.seen] 32)))
  clear hc
  go_enter Try.func12, Try.ntmps12
  go_wp2_with fail
  refine (markObs_own ad g m.n m.os A C hb c k0 _ hl hk1 hk2 HC.out).mono ?_
  rintro e w1 ⟨rfl, o1, f1⟩
  have O1 := hid o1
  have F1 := hid ((FrP.of_below (P := blkH g m.n (fun i => (m.os i).hn) hb) (below_alloc w (.cells #[.string m.kind, .string m.pre, .int .i64 m.at_, .slice ad m.n c, .int .i64 m.seen] 32))).trans f1)
  clear o1 f1
  go_wp2
  go_ret
  exact ⟨rfl, O1.out, F1.out⟩
set_option maxRecDepth 100000 in
theorem heldMr_own (m : Mr) (ad : Option Addr) (g : Nat) (A : Nat → Option Addr) (C hb : Nat → Nat) (c k0 : Nat) (w : World) (os : Nat → Ob) (hl : (m.n : Int) ≤ 1048576) (hk1 : 1 ≤ (k0 : Int)) (hk2 : (mkObs k0 os m.n : Int) ≤ 1073741824) (hc : ObsAt w ad g m.n (ykOb k0 os m.n) A C hb) :
    Calls Try.prog 14 #[.agg #[.string m.kind, .string m.pre, .int .i64 m.at_, .slice ad m.n c, .int .i64 m.seen], .int .i64 k0] w fun e w' => e = .returned (.int .i64 (mkObs k0 os m.n)) ∧ Below w.heap.size w w' := by
  have HC := hid (hc.grow (below_alloc w (.cells #[.string m.kind, .string m.pre, .int .i64 m.at_, .slice ad m.n c, .int .i64 m.seen] 32)))
  clear hc
  have hpos := mkObs_pos k0 os m.n (by omega)
  go_enter Try.func14, Try.ntmps14
  go_wp2_with fail
  refine (heldObs_own ad g m.n os A C hb c k0 _ hl hk1 hk2 HC.out).mono ?_
  rintro e w1 ⟨rfl, hb1⟩
  have hB1 : Below w.heap.size w w1 := (below_alloc _ _).trans (hb1.mono (by simp))
  clear hb1
  go_wp2
  go_ret
  exact ⟨rfl, hB1⟩
end Go.Proofs.Ytkecnaaacbckoaa
namespace Go.Proofs.Ytkecnaaacbckoaa
open Go.RowKit Go.Maps
set_option maxRecDepth 100000 in
set_option maxHeartbeats 1000000 in
theorem copyMr_any (m : Mr) (a : Option Addr) (c : Nat) (w : World) (lo hi : Nat) (hhi : hi ≤ w.heap.size) (hl : (m.n : Int) ≤ 1048576) (hf : ∀ i, i < m.n → ObFit (m.os i)) (hc : ObjsIn w lo hi a m.n m.os) :
    Calls Try.prog 17 #[.agg #[.string m.kind, .string m.pre, .int .i64 m.at_, .slice a m.n c, .int .i64 m.seen]] w fun e w' => ∃ ad' cap' g A C hb, e = .returned (.agg #[.string m.kind, .string m.pre, .int .i64 m.at_, .slice ad' m.n cap', .int .i64 m.seen]) ∧ ObsAt w' ad' g m.n m.os A C hb ∧ (∀ q, blkH g m.n (fun i => (m.os i).hn) hb q → w.heap.size ≤ q) ∧ Below w.heap.size w w' := by
  have HI := hid hc
  clear hc
  go_enter Try.func17, Try.ntmps17
  go_wp2_with fail
  refine (specObs_any m.n m.os a c _ lo hi (by simp; omega) hl hf (HI.out.below (B := w.heap.size) (((Below.refl _ _).alloc (Nat.le_refl _) _).alloc (by simp) _) hhi)).mono ?_
  rintro e w1 ⟨adw, cw, g, A, C, hb, rfl, at1, hq1, hb1⟩
  have hB1 : Below w.heap.size w w1 := (((Below.refl _ _).alloc (Nat.le_refl _) _).alloc (by simp) _).trans (hb1.mono (by simp; omega))
  have hz1 : w.heap.size + 1 < w1.heap.size := by have := hb1.size; simp at this; omega
  obtain ⟨A0, A1, F0, F1⟩ := two_cell hb1
  have p0 := A0 0
  have p1 := A0 1
  have p2 := A0 2
  have p3 := A0 3
  have p4 := A0 4
  have o0 := A1 0
  have o1 := A1 1
  have o2 := A1 2
  have o3 := A1 3
  have o4 := A1 4
  simp only [List.getElem?_toArray, List.getElem?_cons_succ, List.getElem?_cons_zero] at p0 p1 p2 p3 p4 o0 o1 o2 o3 o4
  simp only [World.size_alloc] at hq1
  have AT := hid at1
  have HQ := hid hq1
  clear A0 A1 hb1 at1 hq1
  go_wp2
  refine bodyPost_ret (v := .agg #[.string m.kind, .string m.pre, .int .i64 m.at_, .slice adw m.n cw, .int .i64 m.seen]) (by simp [results, Try.results17, go_sem, o0, o1, o2, o3, o4]) rfl ?_
  refine ⟨adw, cw, g, A, C, hb, rfl, AT.out.fr (P := fun q => q = w.heap.size ∨ q = w.heap.size + 1) ?_ (fun q hq e => by have := HQ.out q hq; omega), fun q hq => by have := HQ.out q hq; omega, ?_⟩
  · iterate 6 refine FrP.setCell (P := fun q => q = w.heap.size ∨ q = w.heap.size + 1) ?_ (by simp) _
    exact FrP.refl _ _
  · iterate 6 refine Below.setCell ?_ (by simp; try omega) _
    exact hB1
end Go.Proofs.Ytkecnaaacbckoaa
