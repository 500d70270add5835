import Derived.Test.YtkecnaaacbckoaaGb
import Derived.Test.YtkecnaaacbckoaaGc
import Derived.Test.YtkecnaaacbckoaaGd
namespace Go.Proofs.Ytkecnaaacbckoaa
open Go.RowKit
theorem ObsAt.blt {w : World} {ad : Option Addr} {g n : Nat} {x : Nat → Ob} {A : Nat → Option Addr} {C hb : Nat → Nat} (h : ObsAt w ad g n x A C hb) {k : Nat} (hk : blkH g n (fun i => (x i).hn) hb k) : k < w.heap.size := by
  rcases hk with ⟨h0, rfl⟩ | ⟨i, hi, h0, rfl⟩
  · obtain ⟨c, r, _⟩ := h.row h0; exact r.lt
  · exact h.hlt i hi h0
theorem ChsAt.blt {w : World} {ad : Option Addr} {g n : Nat} {x : Nat → Ch} {A : Nat → Option Addr} {C hb : Nat → Nat} (h : ChsAt w ad g n x A C hb) {k : Nat} (hk : blkH g n (fun i => (x i).ob.hn) hb k) : k < w.heap.size := by
  rcases hk with ⟨h0, rfl⟩ | ⟨i, hi, h0, rfl⟩
  · obtain ⟨c, r, _⟩ := h.row h0; exact r.lt
  · exact h.hlt i hi h0
theorem TisAt.blt {w : World} {ad : Option Addr} {g n : Nat} {x : Nat → Ti} (h : TisAt w ad g n x) {k : Nat} (hk : 0 < n ∧ k = g) : k < w.heap.size := by
  obtain ⟨h0, rfl⟩ := hk
  obtain ⟨c, r, _⟩ := h.row h0; exact r.lt
/-- where a book's lists lie -/
structure Pl where
  a1 : Option Addr
  a2 : Option Addr
  a3 : Option Addr
  g1 : Nat
  g2 : Nat
  g3 : Nat
  A1 : Nat → Option Addr
  C1 : Nat → Nat
  h1 : Nat → Nat
  A2 : Nat → Option Addr
  C2 : Nat → Nat
  h2 : Nat → Nat
def blk1 (p : Pl) (x : Bk) (k : Nat) : Prop := blkH p.g1 x.on (fun i => (x.os i).hn) p.h1 k
def blk2 (p : Pl) (x : Bk) (k : Nat) : Prop := blkH p.g2 x.hn (fun i => (x.hs i).ob.hn) p.h2 k
def blk3 (p : Pl) (x : Bk) (k : Nat) : Prop := 0 < x.tn ∧ k = p.g3
def blkB (p : Pl) (x : Bk) (k : Nat) : Prop := blk1 p x k ∨ (blk2 p x k ∨ blk3 p x k)
structure BkAt (w : World) (x : Bk) (p : Pl) : Prop where
  o : ObsAt w p.a1 p.g1 x.on x.os p.A1 p.C1 p.h1
  h : ChsAt w p.a2 p.g2 x.hn x.hs p.A2 p.C2 p.h2
  t : TisAt w p.a3 p.g3 x.tn x.ts
  d12 : ∀ k, blk1 p x k → ¬ blk2 p x k
  d13 : ∀ k, blk1 p x k → ¬ blk3 p x k
  d23 : ∀ k, blk2 p x k → ¬ blk3 p x k
theorem BkAt.blt {w : World} {x : Bk} {p : Pl} (h : BkAt w x p) {k : Nat} (hk : blkB p x k) : k < w.heap.size := by
  rcases hk with h1 | h1 | h1
  · exact h.o.blt h1
  · exact h.h.blt h1
  · exact h.t.blt h1
theorem BkAt.fr {w w' : World} {x : Bk} {p : Pl} {P : Nat → Prop} (h : BkAt w x p) (hf : FrP P w w') (hp : ∀ k, blkB p x k → ¬ P k) : BkAt w' x p :=
  ⟨h.o.fr hf (fun k hk => hp k (Or.inl hk)), h.h.fr hf (fun k hk => hp k (Or.inr (Or.inl hk))), h.t.fr hf (fun k hk => hp k (Or.inr (Or.inr hk))), h.d12, h.d13, h.d23⟩
theorem BkAt.grow {w w' : World} {x : Bk} {p : Pl} (h : BkAt w x p) (hf : Below w.heap.size w w') : BkAt w' x p := h.fr (FrP.of_below (P := fun _ => False) hf) (fun _ _ h => h)
def mkBk (k0 : Nat) (x : Bk) : Nat := mkTis (mkChs (mkObs k0 x.os x.on) x.hs x.hn) x.ts x.tn
def ykBk (k0 : Nat) (x : Bk) : Bk := { x with os := ykOb k0 x.os x.on, hs := ykCh (mkObs k0 x.os x.on) x.hs x.hn, ts := ykTi (mkChs (mkObs k0 x.os x.on) x.hs x.hn) x.ts x.tn }
theorem blk1_yk (p : Pl) (k0 : Nat) (x : Bk) : blk1 p (ykBk k0 x) = blk1 p x := by
  unfold blk1 ykBk
  simp only [ykOb_hn]
theorem blk2_yk (p : Pl) (k0 : Nat) (x : Bk) : blk2 p (ykBk k0 x) = blk2 p x := by
  unfold blk2 ykBk
  simp only [ykCh_hn]
theorem blk3_yk (p : Pl) (k0 : Nat) (x : Bk) : blk3 p (ykBk k0 x) = blk3 p x := rfl
theorem blkB_yk (p : Pl) (k0 : Nat) (x : Bk) : blkB p (ykBk k0 x) = blkB p x := by
  unfold blkB
  rw [blk1_yk, blk2_yk, blk3_yk]
end Go.Proofs.Ytkecnaaacbckoaa
