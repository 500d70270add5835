import Derived.Test.YtkecnaaacbckoaaGreatI
import Derived.Test.YtkecnaaacbckoaaGreatE
import Derived.Laws.Tables
import Derived.Deep.RegionWith
import Derived.Test.YtkecnaaacbckoaaGreatLi
namespace Go.Proofs.YtkecnaaacbckoaaGreat
open Go.RowKit
set_option maxRecDepth 100000 in
theorem place_any (R : Nat) (v : Int) (w : World) (h0 : 0 ≤ v) (h1 : v ≤ 1000000) : Calls Tryz.prog 102 #[.pointer (some ⟨R, 0, none⟩), .int .i64 v] w fun e w' => e = .returned (.pointer (some ⟨R, (v % 200).toNat * 9, none⟩)) ∧ w' = w := by
  go_enter Tryz.func102, Tryz.ntmps102
  go_wp2
  go_ret
  exact ⟨rfl, rfl⟩
theorem ring_size : Tryz.zeroCells131.size = 1800 := by kernel_rfl
/-- a ring that has the first n changes, each at its version's place -/
structure RingAt (w : World) (R n f : Nat) (x : Nat → Ch) (A : Nat → Option Addr) (C : Nat → Nat) : Prop where
  room : Room w R 1800
  at_ : ∀ i, i < n → ChCells w R ((f + 1 + i) % 200 * 9) (x i) (A i) (C i)
theorem RingAt.below {w w' : World} {R n f : Nat} {x : Nat → Ch} {A : Nat → Option Addr} {C : Nat → Nat} {B : Nat} (h : RingAt w R n f x A C) (hb : Below B w w') (hB : R < B) (_hs : B ≤ w.heap.size) : RingAt w' R n f x A C :=
  ⟨⟨fun j hj => by obtain ⟨u, hu⟩ := h.room.has j hj; exact ⟨u, (hb.cell (p := ⟨R, j, none⟩) hB).trans hu⟩, fun j => (hb.frozen (p := ⟨R, j, none⟩) hB).trans (h.room.free j), Nat.lt_of_lt_of_le h.room.lt hb.size⟩, fun i hi => (h.at_ i hi).below hb hB⟩
theorem RingAt.step {wr w1 : World} {R k f : Nat} {x : Nat → Ch} {A : Nat → Option Addr} {C : Nat → Nat} (h : RingAt wr R k f x A C) (hk : k < 200) (hb : Below wr.heap.size wr w1) :
    RingAt (w1.setCells R ((f + 1 + k) % 200 * 9) [.int .i64 (x k).ver, .bool (x k).gone, .string (x k).ob.kind, .string (x k).ob.name, .int .i64 (x k).ob.ver, .int .i64 (x k).ob.born, .string (x k).ob.text, .bool (x k).ob.ending, .slice (A k) (x k).ob.hn (C k)]).drew R (k + 1) f x A C := by
  have hg := h.room.lt
  have hR := h.room.below hb hg
  generalize hvs : ([.int .i64 (x k).ver, .bool (x k).gone, .string (x k).ob.kind, .string (x k).ob.name, .int .i64 (x k).ob.ver, .int .i64 (x k).ob.born, .string (x k).ob.text, .bool (x k).ob.ending, .slice (A k) (x k).ob.hn (C k)] : List Value) = vs
  have hlen : vs.length = 9 := by rw [← hvs]; rfl
  have hin := World.cell?_setCells_in R vs ((f + 1 + k) % 200 * 9) w1 (fun j hj => by
    obtain ⟨u, hu⟩ := hR.has ((f + 1 + k) % 200 * 9 + j) (by omega)
    rw [hu]; rfl)
  have hr2 := hR.setCells (o := (f + 1 + k) % 200 * 9) vs (by omega)
  refine ⟨⟨hr2.has, hr2.free, hr2.lt⟩, fun i hi => ?_⟩
  by_cases e : i < k
  · have c := (h.at_ i e).below hb hg
    have c2 : ChCells (w1.setCells R ((f + 1 + k) % 200 * 9) vs) R ((f + 1 + i) % 200 * 9) (x i) (A i) (C i) := c.fr (fun j hj => by
      refine World.cell?_setCells_out R vs ((f + 1 + k) % 200 * 9) w1 _ (fun _ _ => ?_)
      have hne : (f + 1 + i) % 200 ≠ (f + 1 + k) % 200 := by omega
      rcases Nat.lt_or_gt_of_ne hne with h1 | h1
      · exact Or.inl (by show (f + 1 + i) % 200 * 9 + j < (f + 1 + k) % 200 * 9; omega)
      · exact Or.inr (by show (f + 1 + k) % 200 * 9 + vs.length ≤ (f + 1 + i) % 200 * 9 + j; omega))
    exact ⟨c2.c0, c2.c1, c2.c2, c2.c3, c2.c4, c2.c5, c2.c6, c2.c7, c2.c8⟩
  · have : i = k := by omega
    subst this
    have f' := fun j (hj : j < 9) => hin j (by omega)
    have f0 := f' 0 (by omega); have f1 := f' 1 (by omega); have f2 := f' 2 (by omega); have f3 := f' 3 (by omega); have f4 := f' 4 (by omega); have f5 := f' 5 (by omega); have f6 := f' 6 (by omega); have f7 := f' 7 (by omega); have f8 := f' 8 (by omega)
    have c2 : ChCells (w1.setCells R ((f + 1 + i) % 200 * 9) vs) R ((f + 1 + i) % 200 * 9) (x i) (A i) (C i) := by
      subst hvs
      exact ⟨f0, f1, f2, f3, f4, f5, f6, f7, f8⟩
    exact ⟨c2.c0, c2.c1, c2.c2, c2.c3, c2.c4, c2.c5, c2.c6, c2.c7, c2.c8⟩
set_option maxRecDepth 100000 in
set_option maxHeartbeats 2000000 in
theorem ringOf_any (n : Nat) (x : Nat → Ch) (ad : Option Addr) (g cap : Nat) (A : Nat → Option Addr) (C : Nat → Nat) (f : Nat) (w : World) (hn : n ≤ 200) (hf : f + n ≤ 1000000) (hv : ∀ i, i < n → (x i).ver = (f : Int) + 1 + i) (had : 0 < n → ad = some ⟨g, 0, none⟩) (hg : 0 < n → g < w.heap.size) (hc : ∀ i, i < n → ChCells w g (i * 9) (x i) (A i) (C i)) :
    Calls Tryz.prog 46 #[.slice ad n cap] w fun e w' => e = .returned (.pointer (some ⟨w.heap.size, 0, none⟩)) ∧ RingAt w' w.heap.size n f x A C ∧ Below w.heap.size w w' := by
  have hs := ring_size
  go_enter Tryz.func46, Tryz.ntmps46
  go_wp2
  have R0 : RingAt (w.alloc (.cells Tryz.zeroCells131 131)) w.heap.size 0 f x A C := ⟨⟨fun j hj => ⟨Tryz.zeroCells131[j]'(by omega), by rw [World.cell?_alloc_new]; simp [hs, hj]⟩, fun j => by simp, by simp⟩, fun i hi => absurd hi (Nat.not_lt_zero _)⟩
  clear hs
  go_loopw [10] (fun i wr => ∃ k : Nat, k ≤ n ∧ i = .int .i64 k ∧ Below w.heap.size w wr ∧ w.heap.size < wr.heap.size ∧ RingAt wr w.heap.size k f x A C) (fun i _ => n - (intOf i).toNat)
  case atStart => exact ⟨0, Nat.zero_le _, rfl, below_alloc _ _, by simp, R0⟩
  case round =>
    clear R0
    obtain ⟨k, hk, rfl, hb, hz, hr⟩ := hrel
    by_cases hkn : k < n
    · obtain rfl := had (by omega)
      have hgw := hg (by omega)
      obtain ⟨d0, d1, d2, d3, d4, d5, d6, d7, d8⟩ := (hc k hkn).below hb hgw
      have hvk := hv k hkn
      have hver : ((x k).ver % 200).toNat = (f + 1 + k) % 200 := by rw [hvk]; omega
      obtain ⟨P, hP⟩ : ∃ P, (f + 1 + k) % 200 = P := ⟨_, rfl⟩
      have hP2 : P < 200 := by omega
      rw [hP] at hver
      have hv0 : 0 ≤ (x k).ver := by omega
      have hv1 : (x k).ver ≤ 1000000 := by omega
      have HR := hid hr
      have HC := hid hc
      have HV := hid hv
      have hrm : Room wr w.heap.size 1800 := hr.room
      clear hr hc hv hvk
      go_wp2
      obtain ⟨W1, hW1⟩ : ∃ W1, wr.alloc (.cells #[.int .i64 (x k).ver, .bool (x k).gone, .string (x k).ob.kind, .string (x k).ob.name, .int .i64 (x k).ob.ver, .int .i64 (x k).ob.born, .string (x k).ob.text, .bool (x k).ob.ending, .slice (A k) (x k).ob.hn (C k)] 75) = W1 := ⟨_, rfl⟩
      have hbW : Below wr.heap.size wr W1 := by rw [← hW1]; exact below_alloc _ _
      have hrm1 := hrm.below hbW hrm.lt
      obtain ⟨_, q0⟩ := hrm1.has (P * 9) (by omega)
      obtain ⟨_, q1⟩ := hrm1.has (P * 9 + 1) (by omega)
      obtain ⟨_, q2⟩ := hrm1.has (P * 9 + 2) (by omega)
      obtain ⟨_, q3⟩ := hrm1.has (P * 9 + 3) (by omega)
      obtain ⟨_, q4⟩ := hrm1.has (P * 9 + 4) (by omega)
      obtain ⟨_, q5⟩ := hrm1.has (P * 9 + 5) (by omega)
      obtain ⟨_, q6⟩ := hrm1.has (P * 9 + 6) (by omega)
      obtain ⟨_, q7⟩ := hrm1.has (P * 9 + 7) (by omega)
      obtain ⟨_, q8⟩ := hrm1.has (P * 9 + 8) (by omega)
      have qf := hrm1.free
      have b0 : W1.cell? ⟨wr.heap.size, 0, none⟩ = some (.int .i64 (x k).ver) := by rw [← hW1, World.cell?_alloc_new]; rfl
      have b1 : W1.cell? ⟨wr.heap.size, 1, none⟩ = some (.bool (x k).gone) := by rw [← hW1, World.cell?_alloc_new]; rfl
      have b2 : W1.cell? ⟨wr.heap.size, 2, none⟩ = some (.string (x k).ob.kind) := by rw [← hW1, World.cell?_alloc_new]; rfl
      have b3 : W1.cell? ⟨wr.heap.size, 3, none⟩ = some (.string (x k).ob.name) := by rw [← hW1, World.cell?_alloc_new]; rfl
      have b4 : W1.cell? ⟨wr.heap.size, 4, none⟩ = some (.int .i64 (x k).ob.ver) := by rw [← hW1, World.cell?_alloc_new]; rfl
      have b5 : W1.cell? ⟨wr.heap.size, 5, none⟩ = some (.int .i64 (x k).ob.born) := by rw [← hW1, World.cell?_alloc_new]; rfl
      have b6 : W1.cell? ⟨wr.heap.size, 6, none⟩ = some (.string (x k).ob.text) := by rw [← hW1, World.cell?_alloc_new]; rfl
      have b7 : W1.cell? ⟨wr.heap.size, 7, none⟩ = some (.bool (x k).ob.ending) := by rw [← hW1, World.cell?_alloc_new]; rfl
      have b8 : W1.cell? ⟨wr.heap.size, 8, none⟩ = some (.slice (A k) (x k).ob.hn (C k)) := by rw [← hW1, World.cell?_alloc_new]; rfl
      rw [hW1]
      have HW := hid hbW
      clear hrm hrm1 hW1 hbW d0 d1 d2 d3 d4 d5 d6 d7 d8
      go_region_with (go_at_call 102; go_must (refine (place_any _ (x k).ver _ hv0 hv1).mono ?_; rw [hver]; rintro e w' ⟨rfl, rfl⟩))
      all_goals
        have HS := hid (show RingAt (W1.setCells w.heap.size (P * 9) [.int .i64 (x k).ver, .bool (x k).gone, .string (x k).ob.kind, .string (x k).ob.name, .int .i64 (x k).ob.ver, .int .i64 (x k).ob.born, .string (x k).ob.text, .bool (x k).ob.ending, .slice (A k) (x k).ob.hn (C k)]).drew w.heap.size (k + 1) f x A C from hP ▸ HR.out.step (by omega) HW.out)
        have HB := hid (show Below w.heap.size w (W1.setCells w.heap.size (P * 9) [.int .i64 (x k).ver, .bool (x k).gone, .string (x k).ob.kind, .string (x k).ob.name, .int .i64 (x k).ob.ver, .int .i64 (x k).ob.born, .string (x k).ob.text, .bool (x k).ob.ending, .slice (A k) (x k).ob.hn (C k)]).drew from ((hb.trans (HW.out.mono hb.size)).trans ((fr_setCells w.heap.size [.int .i64 (x k).ver, .bool (x k).gone, .string (x k).ob.kind, .string (x k).ob.name, .int .i64 (x k).ob.ver, .int .i64 (x k).ob.born, .string (x k).ob.text, .bool (x k).ob.ending, .slice (A k) (x k).ob.hn (C k)] (P * 9) W1).below (Nat.le_refl _) (hb.trans (HW.out.mono hb.size)).size)).trans ((Below.refl _ _).drew))
        have hz1 : w.heap.size < W1.heap.size := Nat.lt_of_lt_of_le hz HW.out.size
        clear q0 q1 q2 q3 q4 q5 q6 q7 q8 qf b0 b1 b2 b3 b4 b5 b6 b7 b8
        go_wp2
        go_roundw
        case rel => exact ⟨k + 1, by omega, by go_num, HB.out, by simpa using hz1, HS.out⟩
        case measure => simp [intOf]; omega
    · have hke : k = n := by omega
      subst hke
      go_wp2
      go_ret
      exact ⟨rfl, hr, hb⟩
end Go.Proofs.YtkecnaaacbckoaaGreat
namespace Go.Proofs.YtkecnaaacbckoaaGreat
open Go.RowKit Go.Shelf
attribute [local go_sem] Oper.semAt_some
def chV (x : Ch) (a : Option Addr) (c : Nat) : Value := .agg #[.int .i64 x.ver, .bool x.gone, .string x.ob.kind, .string x.ob.name, .int .i64 x.ob.ver, .int .i64 x.ob.born, .string x.ob.text, .bool x.ob.ending, .slice a x.ob.hn c]
theorem pick_range {α : Type} {x : Nat → α} {n i : Nat} (h : i < n) : pick x (List.range n) i = x i := by
  unfold pick
  simp [List.getD_eq_getElem?_getD, h]
set_option maxRecDepth 100000 in
set_option maxHeartbeats 1000000 in
theorem between_in (F : Fence) (m : Nat) (h23 : F.fn 48) (hro : F.round = none) (R : Nat) (ab up : Int) (w : World) :
    CallsIn F m Tryz.prog 48 #[.pointer (some ⟨R, 0, none⟩), .int .i64 ab, .int .i64 up] w fun e w' => e = .returned (.func (.func 104) #[] #[.pointer (some ⟨w.heap.size + 1, 0, none⟩), .pointer (some ⟨w.heap.size + 1 + 1, 0, none⟩), .pointer (some ⟨w.heap.size, 0, none⟩)]) ∧ w' = ((w.alloc (.cells #[.pointer (some ⟨R, 0, none⟩)] 79)).alloc (.cells #[.int .i64 ab] 3)).alloc (.cells #[.int .i64 up] 3) := by
  refine callsIn_of_wp Tryz.func48 rfl h23 ?_ hro
  simp only [Tryz.ntmps48, List.size_toArray, List.length_cons, List.length_nil, Nat.reduceAdd, Nat.reduceSub, Array.replicate_succ, Array.replicate_zero, List.push_toArray, List.append_toArray, List.nil_append, List.cons_append]
  gi_wp2
  go_ret
  exact ⟨rfl, rfl⟩
set_option maxRecDepth 100000 in
set_option maxHeartbeats 2000000 in
theorem between1_in (F : Fence) (m : Nat) (h58 : F.fn 104) (h56 : F.fn 102) (hro : F.round = none) (hm : 1 ≤ m) (l Ba Bu Br n₀ R : Nat) (f k n : Nat) (x : Nat → Ch) (A : Nat → Option Addr) (C : Nat → Nat) (hkn : k ≤ n) (hfn : f + n ≤ 1000000) (J Jx : List (Ix (n - k)) → World → Prop)
    (hPl : ∀ (v : Int) (w : World), 0 ≤ v → v ≤ 1000000 → CallsIn F (m - 1) Tryz.prog 102 #[.pointer (some ⟨R, 0, none⟩), .int .i64 v] w fun e w' => e = .returned (.pointer (some ⟨R, (v % 200).toNat * 9, none⟩)) ∧ w' = w)
    (W : World)
    (hY : ∀ pre x' W1, J pre W1 → pre.length < n - k → YieldAt F (m - 1) Tryz.prog l #[chV (x (k + x'.1)) (A (k + x'.1)) (C (k + x'.1))] W1 fun e W' =>
      (e = .returned (.bool true) ∧ J (pre ++ [x']) W' ∧ Below n₀ W1 W') ∨ (e = .returned (.bool false) ∧ Jx (pre ++ [x']) W'))
    (hBa : W.cell? ⟨Ba, 0, none⟩ = some (.int .i64 ((f + k : Nat) : Int))) (hBu : W.cell? ⟨Bu, 0, none⟩ = some (.int .i64 ((f + n : Nat) : Int))) (hBr : W.cell? ⟨Br, 0, none⟩ = some (.pointer (some ⟨R, 0, none⟩)))
    (hu : Bu < n₀) (hr : Br < n₀) (hR : R < n₀) (_hn₀ : n₀ ≤ W.heap.size) (hs : RingAt W R n f x A C) (h0 : J [] W) :
    CallsIn F m Tryz.prog 104 #[.func (.yield l) #[] #[], .pointer (some ⟨Ba, 0, none⟩), .pointer (some ⟨Bu, 0, none⟩), .pointer (some ⟨Br, 0, none⟩)] W fun e W' => (∃ v, e = .returned v) ∧
      ((∃ ys, ixs ys = List.range (n - k) ∧ J ys W') ∨ (∃ pre, True ∧ Jx pre W')) := by
  refine callsIn_of_wp Tryz.func104 rfl h58 ?_ hro
  simp only [Tryz.ntmps104, List.size_toArray, List.length_cons, List.length_nil, Nat.reduceAdd, Nat.reduceSub, Array.replicate_succ, Array.replicate_zero, List.push_toArray, List.append_toArray, List.nil_append, List.cons_append]
  have HS := hid hs
  clear hs
  gi_wp2
  gi_loopw [5] (fun i wr => ∃ (j : Nat) (pre : List (Ix (n - k))), j ≤ n - k ∧ i = .int .i64 ((f + k + 1 + j : Nat) : Int) ∧ ixs pre = List.range j ∧ J pre wr ∧ Below n₀ W wr)
    (fun i _ => f + n + 1 - (intOf i).toNat)
  case atStart => exact ⟨0, [], Nat.zero_le _, by go_num, rfl, h0, Below.refl _ _⟩
  case round =>
    obtain ⟨j, pre, hjn, rfl, hpre, hJs, hf⟩ := hrel
    have hcu : wr.cell? ⟨Bu, 0, none⟩ = some (.int .i64 ((f + n : Nat) : Int)) := (hf.cell (p := ⟨Bu, 0, none⟩) hu).trans hBu
    have hcr : wr.cell? ⟨Br, 0, none⟩ = some (.pointer (some ⟨R, 0, none⟩)) := (hf.cell (p := ⟨Br, 0, none⟩) hr).trans hBr
    by_cases hlt : j < n - k
    · have hpl : pre.length < n - k := by
        have h1 := ixs_len pre
        rw [hpre] at h1
        simp at h1
        omega
      obtain ⟨P, hP⟩ : ∃ P, (f + 1 + (k + j)) % 200 = P := ⟨_, rfl⟩
      have hc := (HS.out.at_ (k + j) (by omega)).below hf hR
      rw [hP] at hc
      obtain ⟨e0, e1, e2, e3, e4, e5, e6, e7, e8⟩ := hc
      have hver : ((((f + k + 1 + j : Nat) : Int)) % 200).toNat = P := by omega
      have hI := hPl ((f + k + 1 + j : Nat) : Int)
      rw [hver] at hI
      have HN := hid (show ixs (pre ++ [⟨j, hlt⟩]) = List.range (j + 1) by rw [ixs_snoc, hpre, List.range_succ])
      obtain ⟨fn, tmps, assign, body, hy, hRR⟩ := hY pre ⟨j, hlt⟩ wr hJs hpl
      unfold chV at hy
      dsimp only at hy
      clear hP
      gi_wp2_with (gi_at_call 102; go_must (refine (hI _ (by omega) (by omega)).mono ?_; rintro e w1 ⟨rfl, rfl⟩))
      refine hRR.mono ?_
      rintro e W3 (⟨rfl, hJ3, hk3⟩ | ⟨rfl, hJx3⟩)
      · gi_wp2
        go_roundw
        case rel => exact ⟨j + 1, pre ++ [⟨j, hlt⟩], by omega, by go_num, HN.out, hJ3, hf.trans hk3⟩
        case measure => simp [intOf]; omega
      · gi_wp2
        refine bodyPost_ret (results_none rfl _ _ _) rfl ?_
        exact ⟨⟨_, rfl⟩, .inr ⟨pre ++ [⟨j, hlt⟩], trivial, hJx3⟩⟩
    · obtain rfl : j = n - k := by omega
      gi_wp2
      go_end0
      exact ⟨⟨_, rfl⟩, .inl ⟨_, hpre, hJs⟩⟩
end Go.Proofs.YtkecnaaacbckoaaGreat
