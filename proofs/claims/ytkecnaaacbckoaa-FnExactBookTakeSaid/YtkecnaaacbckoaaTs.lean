import Derived.Test.YtkecnaaacbckoaaTp
import Derived.Test.YtkecnaaacbckoaaTq
namespace Go.Proofs.Ytkecnaaacbckoaa
open Go.RowKit Go.Maps
theorem Holds.frP {W W' : World} {B : Nat} {c : Array Value} {P : Nat → Prop} (h : Holds W B c) (hf : FrP P W W') (hB : B < W.heap.size) (hp : ¬ P B) : Holds W' B c := fun i => (hf.cell (p := ⟨B, i, none⟩) hB hp).trans (h i)
theorem holds_m5 {w : World} {b : Nat} {k p : ByteArray} {at_ se : Int} {ad : Option Addr} {n c : Nat} (h : Holds w b #[.string k, .string p, .int .i64 at_, .slice ad n c, .int .i64 se]) :
    w.cell? ⟨b, 0, none⟩ = some (.string k) ∧ w.cell? ⟨b, 1, none⟩ = some (.string p) ∧ w.cell? ⟨b, 2, none⟩ = some (.int .i64 at_) ∧ w.cell? ⟨b, 3, none⟩ = some (.slice ad n c) ∧ w.cell? ⟨b, 4, none⟩ = some (.int .i64 se) := ⟨h 0, h 1, h 2, h 3, h 4⟩
theorem holds_n3 {w : World} {b n c : Nat} {ad : Option Addr} {cd fv : Int} (h : Holds w b #[.int .i64 cd, .slice ad n c, .int .i64 fv]) :
    w.cell? ⟨b, 0, none⟩ = some (.int .i64 cd) ∧ w.cell? ⟨b, 1, none⟩ = some (.slice ad n c) ∧ w.cell? ⟨b, 2, none⟩ = some (.int .i64 fv) := ⟨h 0, h 1, h 2⟩
theorem holds5_of {w : World} {b : Nat} {k p : ByteArray} {at_ se : Int} {ad : Option Addr} {n c : Nat} (h : BoxC w b #[.string k, .string p, .int .i64 at_, .slice ad n c, .int .i64 se]) : Holds w b #[.string k, .string p, .int .i64 at_, .slice ad n c, .int .i64 se] := h.cell
theorem ObjsIn.congr {w : World} {lo hi : Nat} {ad : Option Addr} {n : Nat} {y y' : Nat → Ob} (h : ObjsIn w lo hi ad n y) (e : ∀ i, i < n → y i = y' i) : ObjsIn w lo hi ad n y' := fun i hi => by
  have := h i hi
  rw [e i hi] at this
  exact this
theorem ObjsIn.wide {w : World} {lo hi lo' hi' : Nat} {ad : Option Addr} {n : Nat} {y : Nat → Ob} (h : ObjsIn w lo hi ad n y) (h1 : lo' ≤ lo) (h2 : hi ≤ hi') : ObjsIn w lo' hi' ad n y := fun i hi => by
  obtain ⟨b, off, ah, ch, e1, e2, e3, e4, e5⟩ := h i hi
  exact ⟨b, off, ah, ch, e1, by omega, by omega, e4, fun k hk => by
    obtain ⟨b', off', f1, f2, f3, f4⟩ := e5 k hk
    exact ⟨b', off', f1, by omega, by omega, f4⟩⟩
/-- five cells of a mirror -/
def H5 (w : World) (b : Nat) (k p : ByteArray) (at_ : Int) (ad : Option Addr) (n c : Nat) (se : Int) : Prop :=
  w.cell? ⟨b, 0, none⟩ = some (.string k) ∧ w.cell? ⟨b, 1, none⟩ = some (.string p) ∧ w.cell? ⟨b, 2, none⟩ = some (.int .i64 at_) ∧ w.cell? ⟨b, 3, none⟩ = some (.slice ad n c) ∧ w.cell? ⟨b, 4, none⟩ = some (.int .i64 se)
theorem H5.frP {w w' : World} {P : Nat → Prop} {b : Nat} {k p : ByteArray} {at_ se : Int} {ad : Option Addr} {n c : Nat} (h : H5 w b k p at_ ad n c se) (hf : FrP P w w') (hB : b < w.heap.size) (hp : ¬ P b) : H5 w' b k p at_ ad n c se :=
  ⟨(hf.cell (p := ⟨b, 0, none⟩) hB hp).trans h.1, (hf.cell (p := ⟨b, 1, none⟩) hB hp).trans h.2.1, (hf.cell (p := ⟨b, 2, none⟩) hB hp).trans h.2.2.1, (hf.cell (p := ⟨b, 3, none⟩) hB hp).trans h.2.2.2.1, (hf.cell (p := ⟨b, 4, none⟩) hB hp).trans h.2.2.2.2⟩
theorem H5.below {w w' : World} {b B : Nat} {k p : ByteArray} {at_ se : Int} {ad : Option Addr} {n c : Nat} (h : H5 w b k p at_ ad n c se) (hb : Below B w w') (hB : b < B) : H5 w' b k p at_ ad n c se :=
  ⟨(hb.cell (p := ⟨b, 0, none⟩) hB).trans h.1, (hb.cell (p := ⟨b, 1, none⟩) hB).trans h.2.1, (hb.cell (p := ⟨b, 2, none⟩) hB).trans h.2.2.1, (hb.cell (p := ⟨b, 3, none⟩) hB).trans h.2.2.2.1, (hb.cell (p := ⟨b, 4, none⟩) hB).trans h.2.2.2.2⟩
/-- where the law of BookTake stands, from its first comparison on -/
structure TSt (W : World) (s0 z3 b6 b8 b9 b10 : Nat) (m : Mr) (a : Option Addr) (c : Nat) (cd fv : Int) (n : Nat) (x : Nat → Ch) (an : Option Addr) (cn : Nat) (AT SE : Int) (nw : Nat) (y : Nat → Ob) (adw : Option Addr) (cw gm dm : Nat) (Am : Nat → Option Addr) (Cm hm : Nat → Nat) (mo : Nat → Ob) (gn dn : Nat) (An : Nat → Option Addr) (Cn hn : Nat → Nat) (xo : Nat → Ch) (adg : Option Addr) (cg gg : Nat) (Ag : Nat → Option Addr) (Cg hg : Nat → Nat) (yg : Nat → Ob) : Prop where
  bm : Holds W s0 #[.string m.kind, .string m.pre, .int .i64 m.at_, .slice a m.n c, .int .i64 m.seen]
  bn : Holds W (s0 + 1) #[.int .i64 cd, .slice an n cn, .int .i64 fv]
  argm : ObjsIn W 0 s0 a m.n m.os
  argn : ChgsIn W 0 s0 an n x
  v6 : H5 W b6 m.kind m.pre AT adw nw cw SE
  vw : ObjsIn W 0 z3 adw nw y
  v8 : Holds W b8 #[.string m.kind, .string m.pre, .int .i64 m.at_, .slice (some ⟨gm, 0, none⟩) m.n dm, .int .i64 m.seen]
  mm : ObsAt W (some ⟨gm, 0, none⟩) gm m.n mo Am Cm hm
  mb : ∀ q, blkH gm m.n (fun i => (mo i).hn) hm q → z3 ≤ q ∧ q < b8
  v9 : Holds W b9 #[.int .i64 cd, .slice (some ⟨gn, 0, none⟩) n dn, .int .i64 fv]
  nn : ChsAt W (some ⟨gn, 0, none⟩) gn n xo An Cn hn
  nb : ∀ q, blkH gn n (fun i => (xo i).ob.hn) hn q → b8 < q ∧ q < b9
  v10 : Holds W b10 #[.string m.kind, .string m.pre, .int .i64 AT, .slice adg nw cg, .int .i64 SE]
  vg : ObsAt W adg gg nw yg Ag Cg hg
  bg : ∀ q, blkH gg nw (fun i => (yg i).hn) hg q → b9 < q ∧ q < b10
  o1 : s0 + 1 < b6 ∧ b6 < z3
  o2 : z3 ≤ b8 ∧ b8 < b9 ∧ b9 < b10 ∧ b10 < W.heap.size
section
variable {W W' : World} {s0 z3 b6 b8 b9 b10 : Nat} {m : Mr} {a : Option Addr} {c : Nat} {cd fv : Int} {n : Nat} {x : Nat → Ch} {an : Option Addr} {cn : Nat} {AT SE : Int} {nw : Nat} {y : Nat → Ob} {adw : Option Addr} {cw gm dm : Nat} {Am : Nat → Option Addr} {Cm hm : Nat → Nat} {mo : Nat → Ob} {gn dn : Nat} {An : Nat → Option Addr} {Cn hn : Nat → Nat} {xo : Nat → Ch} {adg : Option Addr} {cg gg : Nat} {Ag : Nat → Option Addr} {Cg hg : Nat → Nat} {yg : Nat → Ob}
theorem TSt.below (h : TSt W s0 z3 b6 b8 b9 b10 m a c cd fv n x an cn AT SE nw y adw cw gm dm Am Cm hm mo gn dn An Cn hn xo adg cg gg Ag Cg hg yg) (hb : Below W.heap.size W W') : TSt W' s0 z3 b6 b8 b9 b10 m a c cd fv n x an cn AT SE nw y adw cw gm dm Am Cm hm mo gn dn An Cn hn xo adg cg gg Ag Cg hg yg := by
  have h1 := h.o1
  have h2 := h.o2
  exact ⟨h.bm.below hb (by omega), h.bn.below hb (by omega), h.argm.below hb (by omega), h.argn.below hb (by omega), h.v6.below hb (by omega), h.vw.below hb (by omega), h.v8.below hb (by omega), h.mm.grow hb, h.mb, h.v9.below hb (by omega), h.nn.grow hb, h.nb, h.v10.below hb (by omega), h.vg.grow hb, h.bg, h1, h2.1, h2.2.1, h2.2.2.1, Nat.lt_of_lt_of_le h2.2.2.2 hb.size⟩
theorem TSt.markM (h : TSt W s0 z3 b6 b8 b9 b10 m a c cd fv n x an cn AT SE nw y adw cw gm dm Am Cm hm mo gn dn An Cn hn xo adg cg gg Ag Cg hg yg) (k0 : Nat) (hx : ObsAt W' (some ⟨gm, 0, none⟩) gm m.n (ykOb k0 mo m.n) Am Cm hm) (hf : FrP (blkH gm m.n (fun i => (mo i).hn) hm) W W') : TSt W' s0 z3 b6 b8 b9 b10 m a c cd fv n x an cn AT SE nw y adw cw gm dm Am Cm hm (ykOb k0 mo m.n) gn dn An Cn hn xo adg cg gg Ag Cg hg yg := by
  have h1 := h.o1
  have h2 := h.o2
  have hno : ∀ q, q < z3 ∨ b8 ≤ q → ¬ blkH gm m.n (fun i => (mo i).hn) hm q := fun q hq e => by have := h.mb _ e; omega
  exact ⟨h.bm.frP hf (by omega) (hno _ (by omega)), h.bn.frP hf (by omega) (hno _ (by omega)), h.argm.below (hf.below (B := s0) (fun k hk => hno k (by omega)) (by omega)) (Nat.le_refl _), h.argn.below (hf.below (B := s0) (fun k hk => hno k (by omega)) (by omega)) (Nat.le_refl _), h.v6.frP hf (by omega) (hno _ (by omega)), h.vw.frQ hf (by omega) (fun q _ hq => hno q (by omega)), h.v8.frP hf (by omega) (hno _ (by omega)), hx, by simp only [ykOb_hn]; exact h.mb, h.v9.frP hf (by omega) (hno _ (by omega)), h.nn.fr hf (fun k hk => hno k (by have := h.nb k hk; omega)), h.nb, h.v10.frP hf (by omega) (hno _ (by omega)), h.vg.fr hf (fun k hk => hno k (by have := h.bg k hk; omega)), h.bg, h1, h2.1, h2.2.1, h2.2.2.1, Nat.lt_of_lt_of_le h2.2.2.2 hf.size⟩
theorem TSt.markN (h : TSt W s0 z3 b6 b8 b9 b10 m a c cd fv n x an cn AT SE nw y adw cw gm dm Am Cm hm mo gn dn An Cn hn xo adg cg gg Ag Cg hg yg) (k0 : Nat) (hx : ChsAt W' (some ⟨gn, 0, none⟩) gn n (ykCh k0 xo n) An Cn hn) (hf : FrP (blkH gn n (fun i => (xo i).ob.hn) hn) W W') : TSt W' s0 z3 b6 b8 b9 b10 m a c cd fv n x an cn AT SE nw y adw cw gm dm Am Cm hm mo gn dn An Cn hn (ykCh k0 xo n) adg cg gg Ag Cg hg yg := by
  have h1 := h.o1
  have h2 := h.o2
  have hno : ∀ q, q ≤ b8 ∨ b9 ≤ q → ¬ blkH gn n (fun i => (xo i).ob.hn) hn q := fun q hq e => by have := h.nb _ e; omega
  exact ⟨h.bm.frP hf (by omega) (hno _ (by omega)), h.bn.frP hf (by omega) (hno _ (by omega)), h.argm.below (hf.below (B := s0) (fun k hk => hno k (by omega)) (by omega)) (Nat.le_refl _), h.argn.below (hf.below (B := s0) (fun k hk => hno k (by omega)) (by omega)) (Nat.le_refl _), h.v6.frP hf (by omega) (hno _ (by omega)), h.vw.frQ hf (by omega) (fun q _ hq => hno q (by omega)), h.v8.frP hf (by omega) (hno _ (by omega)), h.mm.fr hf (fun k hk => hno k (by have := h.mb k hk; omega)), h.mb, h.v9.frP hf (by omega) (hno _ (by omega)), hx, by simp only [ykCh_hn]; exact h.nb, h.v10.frP hf (by omega) (hno _ (by omega)), h.vg.fr hf (fun k hk => hno k (by have := h.bg k hk; omega)), h.bg, h1, h2.1, h2.2.1, h2.2.2.1, Nat.lt_of_lt_of_le h2.2.2.2 hf.size⟩
theorem TSt.markG (h : TSt W s0 z3 b6 b8 b9 b10 m a c cd fv n x an cn AT SE nw y adw cw gm dm Am Cm hm mo gn dn An Cn hn xo adg cg gg Ag Cg hg yg) (k0 : Nat) (hx : ObsAt W' adg gg nw (ykOb k0 yg nw) Ag Cg hg) (hf : FrP (blkH gg nw (fun i => (yg i).hn) hg) W W') : TSt W' s0 z3 b6 b8 b9 b10 m a c cd fv n x an cn AT SE nw y adw cw gm dm Am Cm hm mo gn dn An Cn hn xo adg cg gg Ag Cg hg (ykOb k0 yg nw) := by
  have h1 := h.o1
  have h2 := h.o2
  have hno : ∀ q, q ≤ b9 ∨ b10 ≤ q → ¬ blkH gg nw (fun i => (yg i).hn) hg q := fun q hq e => by have := h.bg _ e; omega
  exact ⟨h.bm.frP hf (by omega) (hno _ (by omega)), h.bn.frP hf (by omega) (hno _ (by omega)), h.argm.below (hf.below (B := s0) (fun k hk => hno k (by omega)) (by omega)) (Nat.le_refl _), h.argn.below (hf.below (B := s0) (fun k hk => hno k (by omega)) (by omega)) (Nat.le_refl _), h.v6.frP hf (by omega) (hno _ (by omega)), h.vw.frQ hf (by omega) (fun q _ hq => hno q (by omega)), h.v8.frP hf (by omega) (hno _ (by omega)), h.mm.fr hf (fun k hk => hno k (by have := h.mb k hk; omega)), h.mb, h.v9.frP hf (by omega) (hno _ (by omega)), h.nn.fr hf (fun k hk => hno k (by have := h.nb k hk; omega)), h.nb, h.v10.frP hf (by omega) (hno _ (by omega)), hx, by simp only [ykOb_hn]; exact h.bg, h1, h2.1, h2.2.1, h2.2.2.1, Nat.lt_of_lt_of_le h2.2.2.2 hf.size⟩
theorem TSt.lowM (h : TSt W s0 z3 b6 b8 b9 b10 m a c cd fv n x an cn AT SE nw y adw cw gm dm Am Cm hm mo gn dn An Cn hn xo adg cg gg Ag Cg hg yg) (hf : FrP (blkH gm m.n (fun i => (mo i).hn) hm) W W') : Below s0 W W' := by
  have h1 := h.o1
  have h2 := h.o2
  exact hf.below (B := s0) (fun k hk e => by have := h.mb _ e; omega) (by omega)
theorem TSt.lowN (h : TSt W s0 z3 b6 b8 b9 b10 m a c cd fv n x an cn AT SE nw y adw cw gm dm Am Cm hm mo gn dn An Cn hn xo adg cg gg Ag Cg hg yg) (hf : FrP (blkH gn n (fun i => (xo i).ob.hn) hn) W W') : Below s0 W W' := by
  have h1 := h.o1
  have h2 := h.o2
  exact hf.below (B := s0) (fun k hk e => by have := h.nb _ e; omega) (by omega)
theorem TSt.lowG (h : TSt W s0 z3 b6 b8 b9 b10 m a c cd fv n x an cn AT SE nw y adw cw gm dm Am Cm hm mo gn dn An Cn hn xo adg cg gg Ag Cg hg yg) (hf : FrP (blkH gg nw (fun i => (yg i).hn) hg) W W') : Below s0 W W' := by
  have h1 := h.o1
  have h2 := h.o2
  exact hf.below (B := s0) (fun k hk e => by have := h.bg _ e; omega) (by omega)
end
end Go.Proofs.Ytkecnaaacbckoaa
