import Derived.Test.YtkecnaaacbckoaaGreatRa
import Derived.Test.YtkecnaaacbckoaaGreatOa
import Derived.Test.YtkecnaaacbckoaaGreatGw
namespace Go.Proofs.YtkecnaaacbckoaaGreat
open Go.RowKit Go.Maps
def mrC (m : Mr) (a : Option Addr) (c : Nat) : Array Value := #[.string m.kind, .string m.pre, .int .i64 m.at_, .slice a m.n c, .int .i64 m.seen]
theorem holds_mr {w : World} {b : Nat} {m : Mr} {a : Option Addr} {c : Nat} (h : Holds w b (mrC m a c)) :
    w.cell? ⟨b, 0, none⟩ = some (.string m.kind) ∧ w.cell? ⟨b, 1, none⟩ = some (.string m.pre) ∧ w.cell? ⟨b, 2, none⟩ = some (.int .i64 m.at_) ∧ w.cell? ⟨b, 3, none⟩ = some (.slice a m.n c) ∧ w.cell? ⟨b, 4, none⟩ = some (.int .i64 m.seen) :=
  ⟨h 0, h 1, h 2, h 3, h 4⟩
/-- where a law of a book and a mirror stands, from its first comparison on -/
structure RS (W : World) (s0 z3 b6 b7 b8 b9 : Nat) (x : Bk) (a1 a2 a3 : Option Addr) (c1 c2 c3 : Nat) (m : Mr) (a : Option Addr) (c : Nat) (r : Mr) (adw : Option Addr) (cw gw : Nat) (Aw : Nat → Option Addr) (Cw hw : Nat → Nat) (p : Pl) (d1 d2 d3 : Nat) (xm : Bk) (am : Option Addr) (cm gm : Nat) (Am : Nat → Option Addr) (Cm hm : Nat → Nat) (mo : Nat → Ob) (adg : Option Addr) (cg gg : Nat) (Ag : Nat → Option Addr) (Cg hg : Nat → Nat) (yg : Nat → Ob) : Prop where
  bx : Holds W s0 (bkCells x a1 a2 a3 c1 c2 c3)
  bm : Holds W (s0 + 1) (mrC m a c)
  arg : BkIn W 0 s0 x a1 a2 a3
  argm : ObjsIn W 0 s0 a m.n m.os
  v6 : Holds W b6 (mrC r adw cw)
  vw : ObsAt W adw gw r.n r.os Aw Cw hw
  bw : ∀ q, blkH gw r.n (fun i => (r.os i).hn) hw q → s0 + 1 < q ∧ q < z3
  v7 : Holds W b7 (bkCells x p.a1 p.a2 p.a3 d1 d2 d3)
  xx : BkAt W xm p
  xb : ∀ q, blkB p xm q → z3 ≤ q ∧ q < b7
  v8 : Holds W b8 (mrC m am cm)
  mm : ObsAt W am gm m.n mo Am Cm hm
  mb : ∀ q, blkH gm m.n (fun i => (mo i).hn) hm q → b7 < q ∧ q < b8
  v9 : Holds W b9 (mrC r adg cg)
  vg : ObsAt W adg gg r.n yg Ag Cg hg
  bg : ∀ q, blkH gg r.n (fun i => (yg i).hn) hg q → b8 < q ∧ q < b9
  o1 : s0 + 1 < b6 ∧ b6 < z3
  o2 : z3 ≤ b7 ∧ b7 < b8 ∧ b8 < b9 ∧ b9 < W.heap.size
section
variable {W W' : World} {s0 z3 b6 b7 b8 b9 : Nat} {x : Bk} {a1 a2 a3 : Option Addr} {c1 c2 c3 : Nat} {m : Mr} {a : Option Addr} {c : Nat} {r : Mr} {adw : Option Addr} {cw gw : Nat} {Aw : Nat → Option Addr} {Cw hw : Nat → Nat} {p : Pl} {d1 d2 d3 : Nat} {xm : Bk} {am : Option Addr} {cm gm : Nat} {Am : Nat → Option Addr} {Cm hm : Nat → Nat} {mo : Nat → Ob} {adg : Option Addr} {cg gg : Nat} {Ag : Nat → Option Addr} {Cg hg : Nat → Nat} {yg : Nat → Ob}
theorem RS.below (h : RS W s0 z3 b6 b7 b8 b9 x a1 a2 a3 c1 c2 c3 m a c r adw cw gw Aw Cw hw p d1 d2 d3 xm am cm gm Am Cm hm mo adg cg gg Ag Cg hg yg) (hb : Below W.heap.size W W') : RS W' s0 z3 b6 b7 b8 b9 x a1 a2 a3 c1 c2 c3 m a c r adw cw gw Aw Cw hw p d1 d2 d3 xm am cm gm Am Cm hm mo adg cg gg Ag Cg hg yg := by
  have h1 := h.o1
  have h2 := h.o2
  exact ⟨h.bx.below hb (by omega), h.bm.below hb (by omega), h.arg.below hb (by omega), h.argm.below hb (by omega), h.v6.below hb (by omega), h.vw.grow hb, h.bw, h.v7.below hb (by omega), h.xx.grow hb, h.xb, h.v8.below hb (by omega), h.mm.grow hb, h.mb, h.v9.below hb (by omega), h.vg.grow hb, h.bg, h1, h2.1, h2.2.1, h2.2.2.1, Nat.lt_of_lt_of_le h2.2.2.2 hb.size⟩
theorem RS.markX (h : RS W s0 z3 b6 b7 b8 b9 x a1 a2 a3 c1 c2 c3 m a c r adw cw gw Aw Cw hw p d1 d2 d3 xm am cm gm Am Cm hm mo adg cg gg Ag Cg hg yg) (k0 : Nat) (hx : BkAt W' (ykBk k0 xm) p) (hf : FrP (blkB p xm) W W') : RS W' s0 z3 b6 b7 b8 b9 x a1 a2 a3 c1 c2 c3 m a c r adw cw gw Aw Cw hw p d1 d2 d3 (ykBk k0 xm) am cm gm Am Cm hm mo adg cg gg Ag Cg hg yg := by
  have h1 := h.o1
  have h2 := h.o2
  have hn : ∀ q, q < z3 ∨ b7 ≤ q → ¬ blkB p xm q := fun q hq e => by have := h.xb _ e; omega
  exact ⟨h.bx.frP hf (by omega) (hn _ (by omega)), h.bm.frP hf (by omega) (hn _ (by omega)), h.arg.below (hf.below (B := s0) (fun k hk => hn k (by omega)) (by omega)) (Nat.le_refl _), h.argm.below (hf.below (B := s0) (fun k hk => hn k (by omega)) (by omega)) (Nat.le_refl _), h.v6.frP hf (by omega) (hn _ (by omega)), h.vw.fr hf (fun k hk => hn k (by have := h.bw k hk; omega)), h.bw, h.v7.frP hf (by omega) (hn _ (by omega)), hx, by rw [blkB_yk]; exact h.xb, h.v8.frP hf (by omega) (hn _ (by omega)), h.mm.fr hf (fun k hk => hn k (by have := h.mb k hk; omega)), h.mb, h.v9.frP hf (by omega) (hn _ (by omega)), h.vg.fr hf (fun k hk => hn k (by have := h.bg k hk; omega)), h.bg, h1, h2.1, h2.2.1, h2.2.2.1, Nat.lt_of_lt_of_le h2.2.2.2 hf.size⟩
theorem RS.markM (h : RS W s0 z3 b6 b7 b8 b9 x a1 a2 a3 c1 c2 c3 m a c r adw cw gw Aw Cw hw p d1 d2 d3 xm am cm gm Am Cm hm mo adg cg gg Ag Cg hg yg) (k0 : Nat) (hx : ObsAt W' am gm m.n (ykOb k0 mo m.n) Am Cm hm) (hf : FrP (blkH gm m.n (fun i => (mo i).hn) hm) W W') : RS W' s0 z3 b6 b7 b8 b9 x a1 a2 a3 c1 c2 c3 m a c r adw cw gw Aw Cw hw p d1 d2 d3 xm am cm gm Am Cm hm (ykOb k0 mo m.n) adg cg gg Ag Cg hg yg := by
  have h1 := h.o1
  have h2 := h.o2
  have hn : ∀ q, q ≤ b7 ∨ b8 ≤ q → ¬ blkH gm m.n (fun i => (mo i).hn) hm q := fun q hq e => by have := h.mb _ e; omega
  exact ⟨h.bx.frP hf (by omega) (hn _ (by omega)), h.bm.frP hf (by omega) (hn _ (by omega)), h.arg.below (hf.below (B := s0) (fun k hk => hn k (by omega)) (by omega)) (Nat.le_refl _), h.argm.below (hf.below (B := s0) (fun k hk => hn k (by omega)) (by omega)) (Nat.le_refl _), h.v6.frP hf (by omega) (hn _ (by omega)), h.vw.fr hf (fun k hk => hn k (by have := h.bw k hk; omega)), h.bw, h.v7.frP hf (by omega) (hn _ (by omega)), h.xx.fr hf (fun k hk => hn k (by have := h.xb k hk; omega)), h.xb, h.v8.frP hf (by omega) (hn _ (by omega)), hx, by simp only [ykOb_hn]; exact h.mb, h.v9.frP hf (by omega) (hn _ (by omega)), h.vg.fr hf (fun k hk => hn k (by have := h.bg k hk; omega)), h.bg, h1, h2.1, h2.2.1, h2.2.2.1, Nat.lt_of_lt_of_le h2.2.2.2 hf.size⟩
theorem RS.markG (h : RS W s0 z3 b6 b7 b8 b9 x a1 a2 a3 c1 c2 c3 m a c r adw cw gw Aw Cw hw p d1 d2 d3 xm am cm gm Am Cm hm mo adg cg gg Ag Cg hg yg) (k0 : Nat) (hx : ObsAt W' adg gg r.n (ykOb k0 yg r.n) Ag Cg hg) (hf : FrP (blkH gg r.n (fun i => (yg i).hn) hg) W W') : RS W' s0 z3 b6 b7 b8 b9 x a1 a2 a3 c1 c2 c3 m a c r adw cw gw Aw Cw hw p d1 d2 d3 xm am cm gm Am Cm hm mo adg cg gg Ag Cg hg (ykOb k0 yg r.n) := by
  have h1 := h.o1
  have h2 := h.o2
  have hn : ∀ q, q ≤ b8 ∨ b9 ≤ q → ¬ blkH gg r.n (fun i => (yg i).hn) hg q := fun q hq e => by have := h.bg _ e; omega
  exact ⟨h.bx.frP hf (by omega) (hn _ (by omega)), h.bm.frP hf (by omega) (hn _ (by omega)), h.arg.below (hf.below (B := s0) (fun k hk => hn k (by omega)) (by omega)) (Nat.le_refl _), h.argm.below (hf.below (B := s0) (fun k hk => hn k (by omega)) (by omega)) (Nat.le_refl _), h.v6.frP hf (by omega) (hn _ (by omega)), h.vw.fr hf (fun k hk => hn k (by have := h.bw k hk; omega)), h.bw, h.v7.frP hf (by omega) (hn _ (by omega)), h.xx.fr hf (fun k hk => hn k (by have := h.xb k hk; omega)), h.xb, h.v8.frP hf (by omega) (hn _ (by omega)), h.mm.fr hf (fun k hk => hn k (by have := h.mb k hk; omega)), h.mb, h.v9.frP hf (by omega) (hn _ (by omega)), hx, by simp only [ykOb_hn]; exact h.bg, h1, h2.1, h2.2.1, h2.2.2.1, Nat.lt_of_lt_of_le h2.2.2.2 hf.size⟩
theorem RS.lowX (h : RS W s0 z3 b6 b7 b8 b9 x a1 a2 a3 c1 c2 c3 m a c r adw cw gw Aw Cw hw p d1 d2 d3 xm am cm gm Am Cm hm mo adg cg gg Ag Cg hg yg) (hf : FrP (blkB p xm) W W') : Below s0 W W' := by
  have h1 := h.o1
  have h2 := h.o2
  exact hf.below (B := s0) (fun k hk e => by have := h.xb _ e; omega) (by omega)
theorem RS.lowM (h : RS W s0 z3 b6 b7 b8 b9 x a1 a2 a3 c1 c2 c3 m a c r adw cw gw Aw Cw hw p d1 d2 d3 xm am cm gm Am Cm hm mo adg cg gg Ag Cg hg yg) (hf : FrP (blkH gm m.n (fun i => (mo i).hn) hm) W W') : Below s0 W W' := by
  have h1 := h.o1
  have h2 := h.o2
  exact hf.below (B := s0) (fun k hk e => by have := h.mb _ e; omega) (by omega)
theorem RS.lowG (h : RS W s0 z3 b6 b7 b8 b9 x a1 a2 a3 c1 c2 c3 m a c r adw cw gw Aw Cw hw p d1 d2 d3 xm am cm gm Am Cm hm mo adg cg gg Ag Cg hg yg) (hf : FrP (blkH gg r.n (fun i => (yg i).hn) hg) W W') : Below s0 W W' := by
  have h1 := h.o1
  have h2 := h.o2
  exact hf.below (B := s0) (fun k hk e => by have := h.bg _ e; omega) (by omega)
end
end Go.Proofs.YtkecnaaacbckoaaGreat
namespace Go.Proofs.YtkecnaaacbckoaaGreat
open Go.RowKit
theorem drew_size (w : World) : w.drew.heap.size = w.heap.size := rfl
structure BoxC (w : World) (b : Nat) (c : Array Value) : Prop where
  cell : ∀ i, w.cell? ⟨b, i, none⟩ = c[i]?
  free : ∀ i, w.frozen? ⟨b, i, none⟩ = false
  lt : b < w.heap.size
theorem boxC_new {w w1 : World} {c : Array Value} {t : TypeId} (hb : Below (w.alloc (.cells c t)).heap.size (w.alloc (.cells c t)) w1) : BoxC w1 w.heap.size c :=
  ⟨box_cell hb, fun i => (hb.frozen (p := ⟨w.heap.size, i, none⟩) (by simp)).trans (World.frozen?_alloc_at _ _ _ _ rfl), by have := hb.size; simp at this; omega⟩
theorem BoxC.below {w w1 : World} {b : Nat} {c : Array Value} (h : BoxC w b c) (hb : Below w.heap.size w w1) : BoxC w1 b c :=
  ⟨fun i => (hb.cell (p := ⟨b, i, none⟩) h.lt).trans (h.cell i), fun i => (hb.frozen (p := ⟨b, i, none⟩) h.lt).trans (h.free i), Nat.lt_of_lt_of_le h.lt hb.size⟩
def updT (t : Nat → Value) (i : Nat) (v : Value) : Nat → Value := fun j => bif j == i then v else t j
theorem updT_ne {t : Nat → Value} {i j : Nat} {v : Value} (h : ¬ j = i) : updT t i v j = t j := by
  have : (j == i) = false := by simpa using h
  simp [updT, this]
theorem updT_same {t : Nat → Value} {i : Nat} {v : Value} : updT t i v i = v := by simp [updT]
/-- a drawn region of two copies, a call of both, and a box for its answer -/
def R7 (mk : (Nat → Value) → Array Value) (W : World) (v0 v2 : Value) (F1 F3 : Value → World → Prop) (F4 : Value → Nat → Nat → World → Prop) (zs : Array Value) (Fin : Value → Value → World → Prop) (l : Array Bool) (a : Act) (X : World) : Prop :=
  ∃ t : Nat → Value, a = ⟨mk t, []⟩ ∧ l.size = 7 ∧ Below W.heap.size W X ∧
    (l.getD 6 false = true → (∀ i, i < 7 → l.getD i false = true) ∧ Fin (t 4) (t 5) X) ∧
    (l.getD 6 false = false → (l.getD 0 false = true → t 0 = v0) ∧ (l.getD 1 false = true → F1 (t 1) X) ∧ (l.getD 2 false = true → t 2 = v2) ∧ (l.getD 3 false = true → F3 (t 3) X) ∧
      (l.getD 4 false = true → ∃ lo hi, W.heap.size ≤ lo ∧ F4 (t 4) lo hi X ∧ (l.getD 5 false = true → ∃ b, t 5 = .pointer (some ⟨b, 0, none⟩) ∧ (b < lo ∨ hi ≤ b))) ∧
      (l.getD 5 false = true → ∃ b, t 5 = .pointer (some ⟨b, 0, none⟩) ∧ W.heap.size ≤ b ∧ BoxC X b zs))
theorem region7 {P : Program} {id : Nat} {ops : Array Oper} {Q : Exit → Act → World → Prop} {a0 : Act} {W : World} (hm : P.follows .mixedOrders = true)
    (mk : (Nat → Value) → Array Value) (v0 v2 : Value) (F1 F3 : Value → World → Prop) (F4 : Value → Nat → Nat → World → Prop) (zs : Array Value) (T : TypeId) (Fin : Value → Value → World → Prop)
    (hn : ops.size = 7) (hord : ((List.range ops.size).all fun i => match ops[i]? with | some o => o.after.all (fun e => decide (e.on < i)) | none => true) = true)
    (hd : ∀ l i, i ∈ Region.ready .any ops l → (i = 1 → l.getD 0 false = true) ∧ (i = 3 → l.getD 2 false = true) ∧ (i = 4 → l.getD 1 false = true ∧ l.getD 3 false = true) ∧ (i = 6 → ∀ j, j < 6 → l.getD j false = true))
    (st1 : ∀ v X Y, F1 v X → Below X.heap.size X Y → F1 v Y) (st3 : ∀ v X Y, F3 v X → Below X.heap.size X Y → F3 v Y) (st4 : ∀ v lo hi X Y, F4 v lo hi X → Below X.heap.size X Y → F4 v lo hi Y) (hi4 : ∀ v lo hi X, F4 v lo hi X → hi ≤ X.heap.size)
    (h0 : a0 = ⟨mk (fun _ => undef), []⟩)
    (s0 : ∀ t X K, Below W.heap.size W X → K ⟨mk (updT t 0 v0), []⟩ X → wpOp P ops Q 0 K ⟨mk t, []⟩ X)
    (s1 : ∀ t X K, Below W.heap.size W X → t 0 = v0 → (∀ v Y, F1 v Y → Below X.heap.size X Y → K ⟨mk (updT t 1 v), []⟩ Y) → wpOp P ops Q 1 K ⟨mk t, []⟩ X)
    (s2 : ∀ t X K, Below W.heap.size W X → K ⟨mk (updT t 2 v2), []⟩ X → wpOp P ops Q 2 K ⟨mk t, []⟩ X)
    (s3 : ∀ t X K, Below W.heap.size W X → t 2 = v2 → (∀ v Y, F3 v Y → Below X.heap.size X Y → K ⟨mk (updT t 3 v), []⟩ Y) → wpOp P ops Q 3 K ⟨mk t, []⟩ X)
    (s4 : ∀ t X K, Below W.heap.size W X → F1 (t 1) X → F3 (t 3) X → (∀ v Y, F4 v X.heap.size Y.heap.size Y → Below X.heap.size X Y → K ⟨mk (updT t 4 v), []⟩ Y) → wpOp P ops Q 4 K ⟨mk t, []⟩ X)
    (s5 : ∀ t X K, K ⟨mk (updT t 5 (.pointer (some ⟨X.heap.size, 0, none⟩))), []⟩ (X.alloc (.cells zs T)) → wpOp P ops Q 5 K ⟨mk t, []⟩ X)
    (s6 : ∀ t X K b lo hi, Below W.heap.size W X → t 5 = .pointer (some ⟨b, 0, none⟩) → W.heap.size ≤ b → BoxC X b zs → F4 (t 4) lo hi X → W.heap.size ≤ lo → (b < lo ∨ hi ≤ b) → (∀ Y, Fin (t 4) (t 5) Y → Below W.heap.size W Y → K ⟨mk t, []⟩ Y) → wpOp P ops Q 6 K ⟨mk t, []⟩ X)
    (hfin : ∀ t X, Fin (t 4) (t 5) X → Below W.heap.size W X → Q .normal ⟨mk t, []⟩ X) : (Code.region id ops true).wp P Q a0 W := by
  refine wp_region_inv hm (R7 mk W v0 v2 F1 F3 F4 zs Fin) ?_ ?_ ?_ ?_
  · refine ⟨fun _ => undef, h0, by simp [hn], (Below.refl _ _).drew, fun h => ?_, fun _ => ⟨fun h => ?_, fun h => ?_, fun h => ?_, fun h => ?_, fun h => ?_, fun h => ?_⟩⟩ <;> (rw [hn] at h; simp at h)
  · rintro l a X ⟨t, _, hs, _⟩
    rw [hs, hn]
  · rintro l a X ⟨t, rfl, hs, hb, h6, _⟩ hr
    have AL := all_listed hord (by rw [hs, hn]) hr
    exact hfin t X (h6 (AL 6 (by omega))).2 hb
  · rintro l a X i ⟨t, rfl, hs, hb, h6, hg⟩ hr
    obtain ⟨d1, d3, d4, d6⟩ := hd l i hr
    obtain ⟨hu, o, ho, _⟩ := mem_ready.1 hr
    have hi7 : i < 7 := by
      rcases Nat.lt_or_ge i 7 with h | h
      · exact h
      · rw [Array.getElem?_eq_none (by omega)] at ho
        cases ho
    have hui : l.getD i false = false := by
      have : l.getD i true = false := hu
      simpa [Array.getD, hs, hi7] using this
    have l6 : l.getD 6 false = false := by
      cases h : l.getD 6 false with
      | false => rfl
      | true => rw [(h6 h).1 i hi7] at hui; cases hui
    obtain ⟨g0, g1, g2, g3, g4, g5⟩ := hg l6
    have kp : ∀ j, ¬ j = i → (l.setIfInBounds i true).getD j false = l.getD j false := fun j hj => by rw [getD_set (by omega), if_neg hj]
    have ki : (l.setIfInBounds i true).getD i false = true := by rw [getD_set (by omega), if_pos rfl]
    have hs' : (l.setIfInBounds i true).size = 7 := by simp [hs]
    clear hr hu ho h6 hg
    rcases (show i = 0 ∨ i = 1 ∨ i = 2 ∨ i = 3 ∨ i = 4 ∨ i = 5 ∨ i = 6 by omega) with rfl | rfl | rfl | rfl | rfl | rfl | rfl
    · refine s0 t X _ hb ⟨updT t 0 v0, rfl, hs', hb, fun h => ?_, fun _ => ⟨fun _ => rfl, fun h => ?_, fun h => ?_, fun h => ?_, fun h => ?_, fun h => ?_⟩⟩
      · rw [kp 6 (by decide), l6] at h; cases h
      · rw [kp 1 (by decide)] at h; exact g1 h
      · rw [kp 2 (by decide)] at h; exact g2 h
      · rw [kp 3 (by decide)] at h; exact g3 h
      · rw [kp 4 (by decide)] at h; rw [kp 5 (by decide)]; exact g4 h
      · rw [kp 5 (by decide)] at h; exact g5 h
    · refine s1 t X _ hb (g0 (d1 rfl)) (fun v Y hv hY => ⟨updT t 1 v, rfl, hs', hb.trans (hY.mono hb.size), fun h => ?_, fun _ => ⟨fun h => ?_, fun _ => hv, fun h => ?_, fun h => ?_, fun h => ?_, fun h => ?_⟩⟩)
      · rw [kp 6 (by decide), l6] at h; cases h
      · rw [kp 0 (by decide)] at h; exact g0 h
      · rw [kp 2 (by decide)] at h; exact g2 h
      · rw [kp 3 (by decide)] at h; exact st3 _ _ _ (g3 h) hY
      · rw [kp 4 (by decide)] at h; rw [kp 5 (by decide)]
        obtain ⟨lo, hi, e1, e2, e3⟩ := g4 h
        exact ⟨lo, hi, e1, st4 _ _ _ _ _ e2 hY, e3⟩
      · rw [kp 5 (by decide)] at h
        obtain ⟨b, e1, e2, e3⟩ := g5 h
        exact ⟨b, e1, e2, e3.below hY⟩
    · refine s2 t X _ hb ⟨updT t 2 v2, rfl, hs', hb, fun h => ?_, fun _ => ⟨fun h => ?_, fun h => ?_, fun _ => rfl, fun h => ?_, fun h => ?_, fun h => ?_⟩⟩
      · rw [kp 6 (by decide), l6] at h; cases h
      · rw [kp 0 (by decide)] at h; exact g0 h
      · rw [kp 1 (by decide)] at h; exact g1 h
      · rw [kp 3 (by decide)] at h; exact g3 h
      · rw [kp 4 (by decide)] at h; rw [kp 5 (by decide)]; exact g4 h
      · rw [kp 5 (by decide)] at h; exact g5 h
    · refine s3 t X _ hb (g2 (d3 rfl)) (fun v Y hv hY => ⟨updT t 3 v, rfl, hs', hb.trans (hY.mono hb.size), fun h => ?_, fun _ => ⟨fun h => ?_, fun h => ?_, fun h => ?_, fun _ => hv, fun h => ?_, fun h => ?_⟩⟩)
      · rw [kp 6 (by decide), l6] at h; cases h
      · rw [kp 0 (by decide)] at h; exact g0 h
      · rw [kp 1 (by decide)] at h; exact st1 _ _ _ (g1 h) hY
      · rw [kp 2 (by decide)] at h; exact g2 h
      · rw [kp 4 (by decide)] at h; rw [kp 5 (by decide)]
        obtain ⟨lo, hi, e1, e2, e3⟩ := g4 h
        exact ⟨lo, hi, e1, st4 _ _ _ _ _ e2 hY, e3⟩
      · rw [kp 5 (by decide)] at h
        obtain ⟨b, e1, e2, e3⟩ := g5 h
        exact ⟨b, e1, e2, e3.below hY⟩
    · refine s4 t X _ hb (g1 (d4 rfl).1) (g3 (d4 rfl).2) (fun v Y hv hY => ⟨updT t 4 v, rfl, hs', hb.trans (hY.mono hb.size), fun h => ?_, fun _ => ⟨fun h => ?_, fun h => ?_, fun h => ?_, fun h => ?_, fun _ => ?_, fun h => ?_⟩⟩)
      · rw [kp 6 (by decide), l6] at h; cases h
      · rw [kp 0 (by decide)] at h; exact g0 h
      · rw [kp 1 (by decide)] at h; exact st1 _ _ _ (g1 h) hY
      · rw [kp 2 (by decide)] at h; exact g2 h
      · rw [kp 3 (by decide)] at h; exact st3 _ _ _ (g3 h) hY
      · refine ⟨X.heap.size, Y.heap.size, hb.size, hv, fun h => ?_⟩
        rw [kp 5 (by decide)] at h
        obtain ⟨b, e1, e2, e3⟩ := g5 h
        exact ⟨b, e1, Or.inl e3.lt⟩
      · rw [kp 5 (by decide)] at h
        obtain ⟨b, e1, e2, e3⟩ := g5 h
        exact ⟨b, e1, e2, e3.below hY⟩
    · have hY := below_alloc X (.cells zs T)
      refine s5 t X _ ⟨updT t 5 _, rfl, hs', hb.alloc hb.size _, fun h => ?_, fun _ => ⟨fun h => ?_, fun h => ?_, fun h => ?_, fun h => ?_, fun h => ?_, fun _ => ?_⟩⟩
      · rw [kp 6 (by decide), l6] at h; cases h
      · rw [kp 0 (by decide)] at h; exact g0 h
      · rw [kp 1 (by decide)] at h; exact st1 _ _ _ (g1 h) hY
      · rw [kp 2 (by decide)] at h; exact g2 h
      · rw [kp 3 (by decide)] at h; exact st3 _ _ _ (g3 h) hY
      · rw [kp 4 (by decide)] at h
        obtain ⟨lo, hi, e1, e2, e3⟩ := g4 h
        exact ⟨lo, hi, e1, st4 _ _ _ _ _ e2 hY, fun _ => ⟨X.heap.size, rfl, Or.inr (hi4 _ _ _ _ e2)⟩⟩
      · exact ⟨X.heap.size, rfl, hb.size, boxC_new (Below.refl _ _)⟩
    · have a4 := d6 rfl 4 (by decide)
      have a5 := d6 rfl 5 (by decide)
      obtain ⟨lo, hi, e1, e2, e3⟩ := g4 a4
      obtain ⟨b, f1, f2⟩ := e3 a5
      obtain ⟨b', f3, f4, f5⟩ := g5 a5
      obtain rfl : b' = b := by rw [f1] at f3; cases f3; rfl
      refine s6 t X _ b' lo hi hb f1 f4 f5 e2 e1 f2 (fun Y hY hbY => ⟨t, rfl, hs', hbY, fun _ => ⟨fun j hj => ?_, hY⟩, fun h => ?_⟩)
      · by_cases e : j = 6
        · subst e; exact ki
        · rw [kp j e]; exact d6 rfl j (by omega)
      · rw [ki] at h; cases h
end Go.Proofs.YtkecnaaacbckoaaGreat
namespace Go.Proofs.YtkecnaaacbckoaaGreat
open Go.RowKit
/-- a drawn region that holds what was handed in against a copy of it -/
def R5 (mk : (Nat → Value) → Array Value) (W : World) (v0 v1 : Value) (F2 : Value → World → Prop) (l : Array Bool) (a : Act) (X : World) : Prop :=
  ∃ t : Nat → Value, a = ⟨mk t, []⟩ ∧ l.size = 5 ∧ Below W.heap.size W X ∧ (l.getD 0 false = true → t 0 = v0) ∧ (l.getD 1 false = true → t 1 = v1) ∧ (l.getD 2 false = true → F2 (t 2) X) ∧ (l.getD 3 false = true → t 3 = .bool true) ∧ (l.getD 4 false = true → t 4 = .bool false)
theorem region5 {P : Program} {id : Nat} {ops : Array Oper} {Q : Exit → Act → World → Prop} {a0 : Act} {W : World} (hm : P.follows .mixedOrders = true)
    (mk : (Nat → Value) → Array Value) (v0 v1 : Value) (F2 : Value → World → Prop)
    (hn : ops.size = 5) (hord : ((List.range ops.size).all fun i => match ops[i]? with | some o => o.after.all (fun e => decide (e.on < i)) | none => true) = true)
    (hd : ∀ l i, i ∈ Region.ready .any ops l → (i = 2 → l.getD 1 false = true) ∧ (i = 3 → l.getD 0 false = true ∧ l.getD 2 false = true) ∧ (i = 4 → l.getD 3 false = true))
    (st2 : ∀ v X Y, F2 v X → Below X.heap.size X Y → F2 v Y)
    (h0 : a0 = ⟨mk (fun _ => undef), []⟩)
    (s0 : ∀ t X K, Below W.heap.size W X → K ⟨mk (updT t 0 v0), []⟩ X → wpOp P ops Q 0 K ⟨mk t, []⟩ X)
    (s1 : ∀ t X K, Below W.heap.size W X → K ⟨mk (updT t 1 v1), []⟩ X → wpOp P ops Q 1 K ⟨mk t, []⟩ X)
    (s2 : ∀ t X K, Below W.heap.size W X → t 1 = v1 → (∀ v Y, F2 v Y → Below X.heap.size X Y → K ⟨mk (updT t 2 v), []⟩ Y) → wpOp P ops Q 2 K ⟨mk t, []⟩ X)
    (s3 : ∀ t X K, Below W.heap.size W X → t 0 = v0 → F2 (t 2) X → (∀ Y, Below X.heap.size X Y → K ⟨mk (updT t 3 (.bool true)), []⟩ Y) → wpOp P ops Q 3 K ⟨mk t, []⟩ X)
    (s4 : ∀ t X K, t 3 = .bool true → K ⟨mk (updT t 4 (.bool false)), []⟩ X → wpOp P ops Q 4 K ⟨mk t, []⟩ X)
    (hfin : ∀ t X, t 4 = .bool false → Below W.heap.size W X → Q .normal ⟨mk t, []⟩ X) : (Code.region id ops true).wp P Q a0 W := by
  refine wp_region_inv hm (R5 mk W v0 v1 F2) ?_ ?_ ?_ ?_
  · refine ⟨fun _ => undef, h0, by simp [hn], (Below.refl _ _).drew, fun h => ?_, fun h => ?_, fun h => ?_, fun h => ?_, fun h => ?_⟩ <;> (rw [hn] at h; simp at h)
  · rintro l a X ⟨t, _, hs, _⟩
    rw [hs, hn]
  · rintro l a X ⟨t, rfl, hs, hb, _, _, _, _, g4⟩ hr
    have AL := all_listed hord (by rw [hs, hn]) hr
    exact hfin t X (g4 (AL 4 (by omega))) hb
  · rintro l a X i ⟨t, rfl, hs, hb, g0, g1, g2, g3, g4⟩ hr
    obtain ⟨d2, d3, d4⟩ := hd l i hr
    obtain ⟨hu, o, ho, _⟩ := mem_ready.1 hr
    have hi5 : i < 5 := by
      rcases Nat.lt_or_ge i 5 with h | h
      · exact h
      · rw [Array.getElem?_eq_none (by omega)] at ho
        cases ho
    have kp : ∀ j, ¬ j = i → (l.setIfInBounds i true).getD j false = l.getD j false := fun j hj => by rw [getD_set (by omega), if_neg hj]
    have hs' : (l.setIfInBounds i true).size = 5 := by simp [hs]
    clear hr hu ho
    rcases (show i = 0 ∨ i = 1 ∨ i = 2 ∨ i = 3 ∨ i = 4 by omega) with rfl | rfl | rfl | rfl | rfl
    · refine s0 t X _ hb ⟨updT t 0 v0, rfl, hs', hb, fun _ => rfl, fun h => ?_, fun h => ?_, fun h => ?_, fun h => ?_⟩
      · rw [kp 1 (by decide)] at h; exact g1 h
      · rw [kp 2 (by decide)] at h; exact g2 h
      · rw [kp 3 (by decide)] at h; exact g3 h
      · rw [kp 4 (by decide)] at h; exact g4 h
    · refine s1 t X _ hb ⟨updT t 1 v1, rfl, hs', hb, fun h => ?_, fun _ => rfl, fun h => ?_, fun h => ?_, fun h => ?_⟩
      · rw [kp 0 (by decide)] at h; exact g0 h
      · rw [kp 2 (by decide)] at h; exact g2 h
      · rw [kp 3 (by decide)] at h; exact g3 h
      · rw [kp 4 (by decide)] at h; exact g4 h
    · refine s2 t X _ hb (g1 (d2 rfl)) (fun v Y hv hY => ⟨updT t 2 v, rfl, hs', hb.trans (hY.mono hb.size), fun h => ?_, fun h => ?_, fun _ => hv, fun h => ?_, fun h => ?_⟩)
      · rw [kp 0 (by decide)] at h; exact g0 h
      · rw [kp 1 (by decide)] at h; exact g1 h
      · rw [kp 3 (by decide)] at h; exact g3 h
      · rw [kp 4 (by decide)] at h; exact g4 h
    · refine s3 t X _ hb (g0 (d3 rfl).1) (g2 (d3 rfl).2) (fun Y hY => ⟨updT t 3 _, rfl, hs', hb.trans (hY.mono hb.size), fun h => ?_, fun h => ?_, fun h => ?_, fun _ => rfl, fun h => ?_⟩)
      · rw [kp 0 (by decide)] at h; exact g0 h
      · rw [kp 1 (by decide)] at h; exact g1 h
      · rw [kp 2 (by decide)] at h; exact st2 _ _ _ (g2 h) hY
      · rw [kp 4 (by decide)] at h; exact g4 h
    · refine s4 t X _ (g3 (d4 rfl)) ⟨updT t 4 _, rfl, hs', hb, fun h => ?_, fun h => ?_, fun h => ?_, fun h => ?_, fun _ => rfl⟩
      · rw [kp 0 (by decide)] at h; exact g0 h
      · rw [kp 1 (by decide)] at h; exact g1 h
      · rw [kp 2 (by decide)] at h; exact g2 h
      · rw [kp 3 (by decide)] at h; exact g3 h
end Go.Proofs.YtkecnaaacbckoaaGreat
