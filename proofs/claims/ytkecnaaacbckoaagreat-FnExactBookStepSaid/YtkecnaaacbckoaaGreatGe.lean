import Derived.Test.YtkecnaaacbckoaaGreatGb
import Derived.Test.YtkecnaaacbckoaaGreatGc
import Derived.Test.YtkecnaaacbckoaaGreatGd
namespace Go.Proofs.YtkecnaaacbckoaaGreat
open Go.RowKit
theorem ObsAt.blt {w : World} {ad : Option Addr} {g n : Nat} {x : Nat → Ob} {A : Nat → Option Addr} {C hb : Nat → Nat} (h : ObsAt w ad g n x A C hb) {k : Nat} (hk : blkH g n (fun i => (x i).hn) hb k) : k < w.heap.size := by
  rcases hk with ⟨h0, rfl⟩ | ⟨i, hi, h0, rfl⟩
  · obtain ⟨c, r, _⟩ := h.row h0; exact r.lt
  · exact h.hlt i hi h0
theorem ChsAt.blt {w : World} {ad : Option Addr} {g n : Nat} {x : Nat → Ch} {A : Nat → Option Addr} {C hb : Nat → Nat} (h : ChsAt w ad g n x A C hb) {k : Nat} (hk : blkH g n (fun i => (x i).ob.hn) hb k) : k < w.heap.size := by
  rcases hk with ⟨h0, rfl⟩ | ⟨i, hi, h0, rfl⟩
  · obtain ⟨c, r, _⟩ := h.row h0; exact r.lt
  · exact h.hlt i hi h0
theorem TisAt.blt {w : World} {ad : Option Addr} {g n : Nat} {x : Nat → Ti} (h : TisAt w ad g n x) {k : Nat} (hk : 0 < n ∧ k = g) : k < w.heap.size := by
  obtain ⟨h0, rfl⟩ := hk
  obtain ⟨c, r, _⟩ := h.row h0; exact r.lt
/-- where a book's lists lie -/
structure Pl where
  a1 : Option Addr
  a2 : Option Addr
  a3 : Option Addr
  g1 : Nat
  g2 : Nat
  g3 : Nat
  A1 : Nat → Option Addr
  C1 : Nat → Nat
  h1 : Nat → Nat
  A2 : Nat → Option Addr
  C2 : Nat → Nat
  h2 : Nat → Nat
def blk1 (p : Pl) (x : Bk) (k : Nat) : Prop := blkH p.g1 x.on (fun i => (x.os i).hn) p.h1 k
def blk2 (p : Pl) (x : Bk) (k : Nat) : Prop := blkH p.g2 x.hn (fun i => (x.hs i).ob.hn) p.h2 k
def blk3 (p : Pl) (x : Bk) (k : Nat) : Prop := 0 < x.tn ∧ k = p.g3
def blkB (p : Pl) (x : Bk) (k : Nat) : Prop := blk1 p x k ∨ (blk2 p x k ∨ blk3 p x k)
structure BkAt (w : World) (x : Bk) (p : Pl) : Prop where
  o : ObsAt w p.a1 p.g1 x.on x.os p.A1 p.C1 p.h1
  h : ChsAt w p.a2 p.g2 x.hn x.hs p.A2 p.C2 p.h2
  t : TisAt w p.a3 p.g3 x.tn x.ts
  d12 : ∀ k, blk1 p x k → ¬ blk2 p x k
  d13 : ∀ k, blk1 p x k → ¬ blk3 p x k
  d23 : ∀ k, blk2 p x k → ¬ blk3 p x k
theorem BkAt.blt {w : World} {x : Bk} {p : Pl} (h : BkAt w x p) {k : Nat} (hk : blkB p x k) : k < w.heap.size := by
  rcases hk with h1 | h1 | h1
  · exact h.o.blt h1
  · exact h.h.blt h1
  · exact h.t.blt h1
theorem BkAt.fr {w w' : World} {x : Bk} {p : Pl} {P : Nat → Prop} (h : BkAt w x p) (hf : FrP P w w') (hp : ∀ k, blkB p x k → ¬ P k) : BkAt w' x p :=
  ⟨h.o.fr hf (fun k hk => hp k (Or.inl hk)), h.h.fr hf (fun k hk => hp k (Or.inr (Or.inl hk))), h.t.fr hf (fun k hk => hp k (Or.inr (Or.inr hk))), h.d12, h.d13, h.d23⟩
theorem BkAt.grow {w w' : World} {x : Bk} {p : Pl} (h : BkAt w x p) (hf : Below w.heap.size w w') : BkAt w' x p := h.fr (FrP.of_below (P := fun _ => False) hf) (fun _ _ h => h)
def mkBk (k0 : Nat) (x : Bk) : Nat := mkTis (mkChs (mkObs k0 x.os x.on) x.hs x.hn) x.ts x.tn
def ykBk (k0 : Nat) (x : Bk) : Bk := { x with os := ykOb k0 x.os x.on, hs := ykCh (mkObs k0 x.os x.on) x.hs x.hn, ts := ykTi (mkChs (mkObs k0 x.os x.on) x.hs x.hn) x.ts x.tn }
theorem blk1_yk (p : Pl) (k0 : Nat) (x : Bk) : blk1 p (ykBk k0 x) = blk1 p x := by
  unfold blk1 ykBk
  simp only [ykOb_hn]
theorem blk2_yk (p : Pl) (k0 : Nat) (x : Bk) : blk2 p (ykBk k0 x) = blk2 p x := by
  unfold blk2 ykBk
  simp only [ykCh_hn]
theorem blk3_yk (p : Pl) (k0 : Nat) (x : Bk) : blk3 p (ykBk k0 x) = blk3 p x := rfl
theorem blkB_yk (p : Pl) (k0 : Nat) (x : Bk) : blkB p (ykBk k0 x) = blkB p x := by
  unfold blkB
  rw [blk1_yk, blk2_yk, blk3_yk]
set_option maxRecDepth 100000 in
set_option maxHeartbeats 1000000 in
theorem markBk_own (x : Bk) (p : Pl) (c1 c2 c3 k0 : Nat) (w : World) (l1 : (x.on : Int) ≤ 1048576) (l2 : (x.hn : Int) ≤ 1048576) (l3 : (x.tn : Int) ≤ 1048576) (hk1 : 1 ≤ (k0 : Int)) (hk2 : (mkBk k0 x : Int) ≤ 1073741824) (hc : BkAt w x p) :
    Calls Tryz.prog 13 #[.agg #[.int .i64 x.now, .int .i64 x.floor, .slice p.a1 x.on c1, .slice p.a2 x.hn c2, .slice p.a3 x.tn c3], .int .i64 k0] w fun e w' => e = .returned (.int .i64 (mkBk k0 x)) ∧ BkAt w' (ykBk k0 x) p ∧ FrP (blkB p x) w w' := by
  have m1 := mkObs_pos k0 x.os x.on (by omega)
  have m2 := mkChs_pos (mkObs k0 x.os x.on) x.hs x.hn m1
  have n2 := mkChs_mono (mkObs k0 x.os x.on) x.hs (Nat.zero_le x.hn)
  have n3 := mkTis_mono (mkChs (mkObs k0 x.os x.on) x.hs x.hn) x.ts (Nat.zero_le x.tn)
  have hk3 : (mkTis (mkChs (mkObs k0 x.os x.on) x.hs x.hn) x.ts x.tn : Int) ≤ 1073741824 := hk2
  simp only [mkChs, mkTis] at n2 n3
  have HC := hid hc
  have hA := hid (hc.grow (below_alloc w (.cells #[.int .i64 x.now, .int .i64 x.floor, .slice p.a1 x.on c1, .slice p.a2 x.hn c2, .slice p.a3 x.tn c3] 32)))
  clear hc hk2
  go_enter Tryz.func13, Tryz.ntmps13
  go_wp2_with fail
  refine (markObs_own p.a1 p.g1 x.on x.os p.A1 p.C1 p.h1 c1 k0 _ l1 hk1 (by omega) hA.out.o).mono ?_
  rintro e w1 ⟨rfl, o1, f1⟩
  have q3 : w1.cell? ⟨w.heap.size, 3, none⟩ = some (.slice p.a2 x.hn c2) := (f1.cell (p := ⟨w.heap.size, 3, none⟩) (by simp) (fun h => Nat.lt_irrefl _ (HC.out.o.blt h))).trans (World.cell?_alloc_new _ _ _ _)
  have q4 : w1.cell? ⟨w.heap.size, 4, none⟩ = some (.slice p.a3 x.tn c3) := (f1.cell (p := ⟨w.heap.size, 4, none⟩) (by simp) (fun h => Nat.lt_irrefl _ (HC.out.o.blt h))).trans (World.cell?_alloc_new _ _ _ _)
  have O1 := hid o1
  have F1 := hid f1
  have H1 := hid (hA.out.h.fr f1 (fun k h2 h1 => HC.out.d12 k h1 h2))
  have T1 := hid (hA.out.t.fr f1 (fun k h2 h1 => HC.out.d13 k h1 h2))
  have z1 : w.heap.size < w1.heap.size := by have := f1.size; simp at this; omega
  clear o1 f1 hA
  go_wp2_with fail
  refine (markChs_own p.a2 p.g2 x.hn x.hs p.A2 p.C2 p.h2 c2 (mkObs k0 x.os x.on) _ l2 (by omega) (by omega) H1.out).mono ?_
  rintro e w2 ⟨rfl, o2, f2⟩
  have r4 := (f2.cell (p := ⟨w.heap.size, 4, none⟩) z1 (fun h => Nat.lt_irrefl _ (HC.out.h.blt h))).trans q4
  have O2 := hid o2
  have F2 := hid f2
  have O1' := hid (O1.out.fr f2 (fun k h1 h2 => HC.out.d12 k (by have := h1; simp only [ykOb_hn] at this; exact this) h2))
  have T2 := hid (T1.out.fr f2 (fun k h2 h1 => HC.out.d23 k h1 h2))
  clear o2 f2 q3 q4 O1 T1 H1
  go_wp2_with fail
  refine (markTis_own p.a3 p.g3 x.tn x.ts c3 (mkChs (mkObs k0 x.os x.on) x.hs x.hn) _ l3 (by omega) hk3 T2.out).mono ?_
  rintro e w3 ⟨rfl, o3, f3⟩
  have O3 := hid o3
  have F3 := hid f3
  clear o3 f3 r4
  go_wp2
  go_ret
  have d1 := HC.out.d12
  have d2 := HC.out.d13
  have d3 := HC.out.d23
  refine ⟨rfl, ⟨O1'.out.fr F3.out (fun k h1 h2 => d2 k (by have := h1; simp only [ykOb_hn] at this; exact this) h2), O2.out.fr F3.out (fun k h1 h2 => d3 k (by have := h1; simp only [ykCh_hn] at this; exact this) h2), O3.out, by rw [blk1_yk, blk2_yk]; exact d1, by rw [blk1_yk, blk3_yk]; exact d2, by rw [blk2_yk, blk3_yk]; exact d3⟩, ?_⟩
  exact ((FrP.of_below (below_alloc w _)).trans (F1.out.mono (fun k h => Or.inl h))).trans ((F2.out.mono (fun k h => Or.inr (Or.inl h))).trans (F3.out.mono (fun k h => Or.inr (Or.inr h))))
end Go.Proofs.YtkecnaaacbckoaaGreat
