import Derived.Test.YtkcgfjnmkbbnoaaCb
import Derived.Test.YtkcgfjnmkbbnoaaRg
import Derived.Test.YtkcgfjnmkbbnoaaNc
namespace Go.Proofs.Ytkcgfjnmkbbnoaa
open Go.RowKit
theorem SrcRow.below {w w' : World} {B lo hi : Nat} {ad : Option Addr} {m : Nat} {c : Nat → Value} (h : SrcRow w lo hi ad m c) (hb : Below B w w') (hB : hi ≤ B) : SrcRow w' lo hi ad m c :=
  ⟨fun j hj => by obtain ⟨b, off, e1, e2, e3, e4⟩ := h.at_ j hj; exact ⟨b, off, e1, e2, e3, (hb.cell (p := ⟨b, off + j, none⟩) (by show b < B; omega)).trans e4⟩, h.one⟩
/-- a box: its cells, none of them frozen -/
structure Bx (w : World) (b : Nat) (c : Array Value) : Prop where
  cell : Holds w b c
  free : ∀ i, w.frozen? ⟨b, i, none⟩ = false
  lt : b < w.heap.size
theorem Bx.below {w w' : World} {b B : Nat} {c : Array Value} (h : Bx w b c) (hb : Below B w w') (hB : b < B) : Bx w' b c :=
  ⟨h.cell.below hb hB, fun i => (hb.frozen (p := ⟨b, i, none⟩) hB).trans (h.free i), Nat.lt_of_lt_of_le h.lt hb.size⟩
theorem Bx.frP {w w' : World} {b : Nat} {c : Array Value} {P : Nat → Prop} (h : Bx w b c) (hb : FrP P w w') (ho : ¬ P b) : Bx w' b c :=
  ⟨h.cell.frP hb h.lt ho, fun i => (hb.frozen (p := ⟨b, i, none⟩) h.lt ho).trans (h.free i), Nat.lt_of_lt_of_le h.lt hb.size⟩
theorem Bx.to {w : World} {b : Nat} {c c' : Array Value} {i : Nat} {v : Value} (h : Bx w b c) (hc : Holds (w.setCell ⟨b, i, none⟩ v) b c') : Bx (w.setCell ⟨b, i, none⟩ v) b c' :=
  ⟨hc, fun j => by rw [World.frozen?_setCell]; exact h.free j, by rw [World.size_setCell]; exact h.lt⟩
theorem Bx.there {w : World} {b : Nat} {c : Array Value} (h : Bx w b c) : w.there b 0 c.size := Holds.there h.cell h.free
theorem RcAt.ofRows {w : World} {r : Rc} {p : RcP} (z : Nat → Nat) (o0 : SlsAt w p.A.sa p.g0 r.sf.n r.sf.s) (o1 : SlsAt w p.A.da p.g1 r.dk.n r.dk.s) (o2 : MssAt w p.A.ha p.g2 r.hn r.hs p.HA p.HC p.Hb) (o3 : StrsOwn w p.g3 (p.g3 + 1) p.A.wa r.wn r.ws) (o4 : IntsOwn w p.g4 (p.g4 + 1) p.A.ya r.yn r.ys) (o5 : SlsAt w p.A.ba p.g5 r.bn r.bs) (o6 : AksAt w p.A.aa p.g6 r.an r.as_ p.AA p.AC p.Ab)
    (hz : ∀ j, j < 7 → z j ≤ z (j + 1)) (ht : z 7 ≤ w.heap.size) (hr : ∀ j k, j < 7 → rb p r j k → z j ≤ k ∧ k < z (j + 1)) : RcAt w r p := by
  have mono : ∀ a b, a ≤ b → b ≤ 7 → z a ≤ z b := fun a b hab hb => by
    induction b with
    | zero => have : a = 0 := by omega
              subst this; exact Nat.le_refl _
    | succ m ih =>
      rcases Nat.lt_or_ge m a with h | h
      · have : a = m + 1 := by omega
        subst this; exact Nat.le_refl _
      · exact Nat.le_trans (ih h (by omega)) (hz m (by omega))
  refine ⟨o0, o1, o2, o3, o4, o5, o6, fun k hk => ?_, fun i j k hi hj h1 h2 => ?_⟩
  · obtain ⟨j, hj, hk⟩ := hk
    have := (hr j k hj hk).2
    have := mono (j + 1) 7 (by omega) (by omega)
    omega
  · have e1 := hr i k hi h1
    have e2 := hr j k hj h2
    rcases Nat.lt_trichotomy i j with h | h | h
    · have := mono (i + 1) j (by omega) (by omega); omega
    · exact h
    · have := mono (j + 1) i (by omega) (by omega); omega
def copyReg11G (s q g n cap k : Nat) (a : Option Addr) (c : Nat) (y : Ak) (W : World) (i : Nat) (v : Value) (X : World) : Prop :=
  match i with
  | 0 => v = .pointer (some ⟨s, 16, none⟩)
  | 1 => v = .slice (some ⟨g, 0, none⟩) n cap
  | 2 => v = .int .i64 k
  | 3 => v = .pointer (some ⟨q, 1, none⟩)
  | 4 => v = .slice a y.n c
  | 5 => ∃ ad' cap' b', v = .slice ad' y.n cap' ∧ W.heap.size ≤ b' ∧ (y.n ≠ 0 → b' < X.heap.size) ∧ IntsOwn X b' (b' + 1) ad' y.n y.s
  | 6 => v = .pointer (some ⟨g, k * 2, none⟩)
  | 7 => v = .pointer (some ⟨g, k * 2 + 1, none⟩)
  | _ => True
end Go.Proofs.Ytkcgfjnmkbbnoaa
namespace Go.Proofs.Ytkcgfjnmkbbnoaa
open Go.RowKit
/-- lists with no room behind them -/
structure RcTight (r : Rc) (A : RcA) : Prop where
  sc : A.sc = r.sf.n
  dc : A.dc = r.dk.n
  hc : A.hc = r.hn
  wc : A.wc = r.wn
  yc : A.yc = r.yn
  bc : A.bc = r.bn
  ac : A.ac = r.an
  da : r.dk.n = 0 → A.da = none
end Go.Proofs.Ytkcgfjnmkbbnoaa
