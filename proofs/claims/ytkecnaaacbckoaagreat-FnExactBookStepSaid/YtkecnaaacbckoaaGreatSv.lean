import Derived.Test.YtkecnaaacbckoaaGreatSu
import Derived.Test.YtkecnaaacbckoaaGreatE
import Derived.ProofKit
import Derived.SizedLaws
import Derived.Deep.Slices
import Derived.Deep.Strs
namespace Go.Proofs.YtkecnaaacbckoaaGreat
open Go.RowKit Go.Maps
theorem holds_m5 {w : World} {b : Nat} {k p : ByteArray} {at_ se : Int} {ad : Option Addr} {n c : Nat} (h : Holds w b #[.string k, .string p, .int .i64 at_, .slice ad n c, .int .i64 se]) :
    w.cell? ⟨b, 0, none⟩ = some (.string k) ∧ w.cell? ⟨b, 1, none⟩ = some (.string p) ∧ w.cell? ⟨b, 2, none⟩ = some (.int .i64 at_) ∧ w.cell? ⟨b, 3, none⟩ = some (.slice ad n c) ∧ w.cell? ⟨b, 4, none⟩ = some (.int .i64 se) := ⟨h 0, h 1, h 2, h 3, h 4⟩
theorem ObjsIn.congr {w : World} {lo hi : Nat} {ad : Option Addr} {n : Nat} {y y' : Nat → Ob} (h : ObjsIn w lo hi ad n y) (e : ∀ i, i < n → y i = y' i) : ObjsIn w lo hi ad n y' := fun i hi => by
  have := h i hi
  rw [e i hi] at this
  exact this
theorem ObjsIn.wide {w : World} {lo hi lo' hi' : Nat} {ad : Option Addr} {n : Nat} {y : Nat → Ob} (h : ObjsIn w lo hi ad n y) (h1 : lo' ≤ lo) (h2 : hi ≤ hi') : ObjsIn w lo' hi' ad n y := fun i hi => by
  obtain ⟨b, off, ah, ch, e1, e2, e3, e4, e5⟩ := h i hi
  exact ⟨b, off, ah, ch, e1, by omega, by omega, e4, fun k hk => by
    obtain ⟨b', off', f1, f2, f3, f4⟩ := e5 k hk
    exact ⟨b', off', f1, by omega, by omega, f4⟩⟩
def H5 (w : World) (b : Nat) (k p : ByteArray) (at_ : Int) (ad : Option Addr) (n c : Nat) (se : Int) : Prop :=
  w.cell? ⟨b, 0, none⟩ = some (.string k) ∧ w.cell? ⟨b, 1, none⟩ = some (.string p) ∧ w.cell? ⟨b, 2, none⟩ = some (.int .i64 at_) ∧ w.cell? ⟨b, 3, none⟩ = some (.slice ad n c) ∧ w.cell? ⟨b, 4, none⟩ = some (.int .i64 se)
theorem H5.frP {w w' : World} {P : Nat → Prop} {b : Nat} {k p : ByteArray} {at_ se : Int} {ad : Option Addr} {n c : Nat} (h : H5 w b k p at_ ad n c se) (hf : FrP P w w') (hB : b < w.heap.size) (hp : ¬ P b) : H5 w' b k p at_ ad n c se :=
  ⟨(hf.cell (p := ⟨b, 0, none⟩) hB hp).trans h.1, (hf.cell (p := ⟨b, 1, none⟩) hB hp).trans h.2.1, (hf.cell (p := ⟨b, 2, none⟩) hB hp).trans h.2.2.1, (hf.cell (p := ⟨b, 3, none⟩) hB hp).trans h.2.2.2.1, (hf.cell (p := ⟨b, 4, none⟩) hB hp).trans h.2.2.2.2⟩
theorem H5.below {w w' : World} {b B : Nat} {k p : ByteArray} {at_ se : Int} {ad : Option Addr} {n c : Nat} (h : H5 w b k p at_ ad n c se) (hb : Below B w w') (hB : b < B) : H5 w' b k p at_ ad n c se :=
  ⟨(hb.cell (p := ⟨b, 0, none⟩) hB).trans h.1, (hb.cell (p := ⟨b, 1, none⟩) hB).trans h.2.1, (hb.cell (p := ⟨b, 2, none⟩) hB).trans h.2.2.1, (hb.cell (p := ⟨b, 3, none⟩) hB).trans h.2.2.2.1, (hb.cell (p := ⟨b, 4, none⟩) hB).trans h.2.2.2.2⟩
/-- where the law of BookStep stands, from its first comparison on -/
structure SSt (W : World) (s0 z3 b8 b10 b11 b12 : Nat) (B : Bk) (a1 a2 a3 : Option Addr) (c1 c2 c3 : Nat) (m : Mr) (a : Option Addr) (c : Nat) (AT SE : Int) (nw : Nat) (y : Nat → Ob) (adw : Option Addr) (cw : Nat) (p : Pl) (d1 d2 d3 : Nat) (xm : Bk) (gm dm : Nat) (Am : Nat → Option Addr) (Cm hm : Nat → Nat) (mo : Nat → Ob) (adg : Option Addr) (cg gg : Nat) (Ag : Nat → Option Addr) (Cg hg : Nat → Nat) (yg : Nat → Ob) : Prop where
  bb : Holds W s0 #[.int .i64 B.now, .int .i64 B.floor, .slice a1 B.on c1, .slice a2 B.hn c2, .slice a3 B.tn c3]
  bm : Holds W (s0 + 1) #[.string m.kind, .string m.pre, .int .i64 m.at_, .slice a m.n c, .int .i64 m.seen]
  argb : BkIn W 0 s0 B a1 a2 a3
  argm : ObjsIn W 0 s0 a m.n m.os
  v8 : H5 W b8 m.kind m.pre AT adw nw cw SE
  vw : ObjsIn W 0 z3 adw nw y
  v10 : Holds W b10 #[.int .i64 B.now, .int .i64 B.floor, .slice p.a1 B.on d1, .slice p.a2 B.hn d2, .slice p.a3 B.tn d3]
  xx : BkAt W xm p
  xb : ∀ q, blkB p xm q → z3 ≤ q ∧ q < b10
  v11 : Holds W b11 #[.string m.kind, .string m.pre, .int .i64 m.at_, .slice (some ⟨gm, 0, none⟩) m.n dm, .int .i64 m.seen]
  mm : ObsAt W (some ⟨gm, 0, none⟩) gm m.n mo Am Cm hm
  mb : ∀ q, blkH gm m.n (fun i => (mo i).hn) hm q → b10 < q ∧ q < b11
  v12 : Holds W b12 #[.string m.kind, .string m.pre, .int .i64 AT, .slice adg nw cg, .int .i64 SE]
  vg : ObsAt W adg gg nw yg Ag Cg hg
  bg : ∀ q, blkH gg nw (fun i => (yg i).hn) hg q → b11 < q ∧ q < b12
  o1 : s0 + 1 < b8 ∧ b8 < z3
  o2 : z3 ≤ b10 ∧ b10 < b11 ∧ b11 < b12 ∧ b12 < W.heap.size
section
variable {W W' : World} {s0 z3 b8 b10 b11 b12 : Nat} {B : Bk} {a1 a2 a3 : Option Addr} {c1 c2 c3 : Nat} {m : Mr} {a : Option Addr} {c : Nat} {AT SE : Int} {nw : Nat} {y : Nat → Ob} {adw : Option Addr} {cw : Nat} {p : Pl} {d1 d2 d3 : Nat} {xm : Bk} {gm dm : Nat} {Am : Nat → Option Addr} {Cm hm : Nat → Nat} {mo : Nat → Ob} {adg : Option Addr} {cg gg : Nat} {Ag : Nat → Option Addr} {Cg hg : Nat → Nat} {yg : Nat → Ob}
theorem SSt.below (h : SSt W s0 z3 b8 b10 b11 b12 B a1 a2 a3 c1 c2 c3 m a c AT SE nw y adw cw p d1 d2 d3 xm gm dm Am Cm hm mo adg cg gg Ag Cg hg yg) (hb : Below W.heap.size W W') : SSt W' s0 z3 b8 b10 b11 b12 B a1 a2 a3 c1 c2 c3 m a c AT SE nw y adw cw p d1 d2 d3 xm gm dm Am Cm hm mo adg cg gg Ag Cg hg yg := by
  have h1 := h.o1
  have h2 := h.o2
  exact ⟨h.bb.below hb (by omega), h.bm.below hb (by omega), h.argb.below hb (by omega), h.argm.below hb (by omega), h.v8.below hb (by omega), h.vw.below hb (by omega), h.v10.below hb (by omega), h.xx.grow hb, h.xb, h.v11.below hb (by omega), h.mm.grow hb, h.mb, h.v12.below hb (by omega), h.vg.grow hb, h.bg, h1, h2.1, h2.2.1, h2.2.2.1, Nat.lt_of_lt_of_le h2.2.2.2 hb.size⟩
theorem SSt.markX (h : SSt W s0 z3 b8 b10 b11 b12 B a1 a2 a3 c1 c2 c3 m a c AT SE nw y adw cw p d1 d2 d3 xm gm dm Am Cm hm mo adg cg gg Ag Cg hg yg) (k0 : Nat) (hx : BkAt W' (ykBk k0 xm) p) (hf : FrP (blkB p xm) W W') : SSt W' s0 z3 b8 b10 b11 b12 B a1 a2 a3 c1 c2 c3 m a c AT SE nw y adw cw p d1 d2 d3 (ykBk k0 xm) gm dm Am Cm hm mo adg cg gg Ag Cg hg yg := by
  have h1 := h.o1
  have h2 := h.o2
  have hno : ∀ q, q < z3 ∨ b10 ≤ q → ¬ blkB p xm q := fun q hq e => by have := h.xb _ e; omega
  exact ⟨h.bb.frP hf (by omega) (hno _ (by omega)), h.bm.frP hf (by omega) (hno _ (by omega)), h.argb.below (hf.below (B := s0) (fun k hk => hno k (by omega)) (by omega)) (Nat.le_refl _), h.argm.below (hf.below (B := s0) (fun k hk => hno k (by omega)) (by omega)) (Nat.le_refl _), h.v8.frP hf (by omega) (hno _ (by omega)), h.vw.frQ hf (by omega) (fun q _ hq => hno q (by omega)), h.v10.frP hf (by omega) (hno _ (by omega)), hx, by rw [blkB_yk]; exact h.xb, h.v11.frP hf (by omega) (hno _ (by omega)), h.mm.fr hf (fun k hk => hno k (by have := h.mb k hk; omega)), h.mb, h.v12.frP hf (by omega) (hno _ (by omega)), h.vg.fr hf (fun k hk => hno k (by have := h.bg k hk; omega)), h.bg, h1, h2.1, h2.2.1, h2.2.2.1, Nat.lt_of_lt_of_le h2.2.2.2 hf.size⟩
theorem SSt.markM (h : SSt W s0 z3 b8 b10 b11 b12 B a1 a2 a3 c1 c2 c3 m a c AT SE nw y adw cw p d1 d2 d3 xm gm dm Am Cm hm mo adg cg gg Ag Cg hg yg) (k0 : Nat) (hx : ObsAt W' (some ⟨gm, 0, none⟩) gm m.n (ykOb k0 mo m.n) Am Cm hm) (hf : FrP (blkH gm m.n (fun i => (mo i).hn) hm) W W') : SSt W' s0 z3 b8 b10 b11 b12 B a1 a2 a3 c1 c2 c3 m a c AT SE nw y adw cw p d1 d2 d3 xm gm dm Am Cm hm (ykOb k0 mo m.n) adg cg gg Ag Cg hg yg := by
  have h1 := h.o1
  have h2 := h.o2
  have hno : ∀ q, q ≤ b10 ∨ b11 ≤ q → ¬ blkH gm m.n (fun i => (mo i).hn) hm q := fun q hq e => by have := h.mb _ e; omega
  exact ⟨h.bb.frP hf (by omega) (hno _ (by omega)), h.bm.frP hf (by omega) (hno _ (by omega)), h.argb.below (hf.below (B := s0) (fun k hk => hno k (by omega)) (by omega)) (Nat.le_refl _), h.argm.below (hf.below (B := s0) (fun k hk => hno k (by omega)) (by omega)) (Nat.le_refl _), h.v8.frP hf (by omega) (hno _ (by omega)), h.vw.frQ hf (by omega) (fun q _ hq => hno q (by omega)), h.v10.frP hf (by omega) (hno _ (by omega)), h.xx.fr hf (fun k hk => hno k (by have := h.xb k hk; omega)), h.xb, h.v11.frP hf (by omega) (hno _ (by omega)), hx, by simp only [ykOb_hn]; exact h.mb, h.v12.frP hf (by omega) (hno _ (by omega)), h.vg.fr hf (fun k hk => hno k (by have := h.bg k hk; omega)), h.bg, h1, h2.1, h2.2.1, h2.2.2.1, Nat.lt_of_lt_of_le h2.2.2.2 hf.size⟩
theorem SSt.markG (h : SSt W s0 z3 b8 b10 b11 b12 B a1 a2 a3 c1 c2 c3 m a c AT SE nw y adw cw p d1 d2 d3 xm gm dm Am Cm hm mo adg cg gg Ag Cg hg yg) (k0 : Nat) (hx : ObsAt W' adg gg nw (ykOb k0 yg nw) Ag Cg hg) (hf : FrP (blkH gg nw (fun i => (yg i).hn) hg) W W') : SSt W' s0 z3 b8 b10 b11 b12 B a1 a2 a3 c1 c2 c3 m a c AT SE nw y adw cw p d1 d2 d3 xm gm dm Am Cm hm mo adg cg gg Ag Cg hg (ykOb k0 yg nw) := by
  have h1 := h.o1
  have h2 := h.o2
  have hno : ∀ q, q ≤ b11 ∨ b12 ≤ q → ¬ blkH gg nw (fun i => (yg i).hn) hg q := fun q hq e => by have := h.bg _ e; omega
  exact ⟨h.bb.frP hf (by omega) (hno _ (by omega)), h.bm.frP hf (by omega) (hno _ (by omega)), h.argb.below (hf.below (B := s0) (fun k hk => hno k (by omega)) (by omega)) (Nat.le_refl _), h.argm.below (hf.below (B := s0) (fun k hk => hno k (by omega)) (by omega)) (Nat.le_refl _), h.v8.frP hf (by omega) (hno _ (by omega)), h.vw.frQ hf (by omega) (fun q _ hq => hno q (by omega)), h.v10.frP hf (by omega) (hno _ (by omega)), h.xx.fr hf (fun k hk => hno k (by have := h.xb k hk; omega)), h.xb, h.v11.frP hf (by omega) (hno _ (by omega)), h.mm.fr hf (fun k hk => hno k (by have := h.mb k hk; omega)), h.mb, h.v12.frP hf (by omega) (hno _ (by omega)), hx, by simp only [ykOb_hn]; exact h.bg, h1, h2.1, h2.2.1, h2.2.2.1, Nat.lt_of_lt_of_le h2.2.2.2 hf.size⟩
theorem SSt.lowX (h : SSt W s0 z3 b8 b10 b11 b12 B a1 a2 a3 c1 c2 c3 m a c AT SE nw y adw cw p d1 d2 d3 xm gm dm Am Cm hm mo adg cg gg Ag Cg hg yg) (hf : FrP (blkB p xm) W W') : Below s0 W W' := by
  have h1 := h.o1
  have h2 := h.o2
  exact hf.below (B := s0) (fun k hk e => by have := h.xb _ e; omega) (by omega)
theorem SSt.lowM (h : SSt W s0 z3 b8 b10 b11 b12 B a1 a2 a3 c1 c2 c3 m a c AT SE nw y adw cw p d1 d2 d3 xm gm dm Am Cm hm mo adg cg gg Ag Cg hg yg) (hf : FrP (blkH gm m.n (fun i => (mo i).hn) hm) W W') : Below s0 W W' := by
  have h1 := h.o1
  have h2 := h.o2
  exact hf.below (B := s0) (fun k hk e => by have := h.mb _ e; omega) (by omega)
theorem SSt.lowG (h : SSt W s0 z3 b8 b10 b11 b12 B a1 a2 a3 c1 c2 c3 m a c AT SE nw y adw cw p d1 d2 d3 xm gm dm Am Cm hm mo adg cg gg Ag Cg hg yg) (hf : FrP (blkH gg nw (fun i => (yg i).hn) hg) W W') : Below s0 W W' := by
  have h1 := h.o1
  have h2 := h.o2
  exact hf.below (B := s0) (fun k hk e => by have := h.bg _ e; omega) (by omega)
end
end Go.Proofs.YtkecnaaacbckoaaGreat
namespace Go.Proofs.YtkecnaaacbckoaaGreat
open Go.RowKit Go.Maps
theorem fit_of_szH {x : Bk} (h : szBk x ≤ 1048576) : ∀ i, i < x.hn → (x.hs i).ob.hn ≤ 1048576 := fun i hi => by
  unfold szBk at h
  have h1 : szChs x.hn x.hs ≤ 1048576 := by omega
  unfold szChs at h1
  have h2 := sumTo_mono (fun i => szCh (x.hs i)) (show i + 1 ≤ x.hn by omega)
  simp only [sumTo, szCh, szOb, szStrs] at h2 h1
  omega
theorem nwN_200 (x : Bk) (ki pr : ByteArray) (fr most : Int) : nwN x ki pr fr most ≤ 200 := by
  by_cases hK : nwC x fr most = 0
  · obtain ⟨hv, _⟩ := nwC_zero hK
    obtain ⟨_, _, _, v3, _⟩ := valid_hist hv
    have := nwN_le x ki pr fr most
    omega
  · rw [nwN, if_neg hK]
    exact Nat.zero_le _
theorem stS_bound (B : Bk) (m : Mr) (most : Int) (hb : szBk B ≤ 1048576) (hm : szMr m ≤ 1048576) (hon : (B.on : Int) ≤ 1048576) (hsum : (m.n : Int) + B.hn ≤ 1048576) : ((stS B m most).l.length : Int) ≤ 1048576 ∧ (wtL (stS B m most).l : Int) ≤ 1073741000 := by
  unfold stS stS0
  split
  · have h1 := res_len B m.kind m.pre
    have h2 := res_mk B m.kind m.pre
    rw [mkObs_wt] at h2
    have h3 := mkObs_le 1 B.os B.on
    have h4 := hb
    unfold szBk at h4
    refine ⟨?_, ?_⟩
    · show ((tkL _ _).length : Int) ≤ _
      rw [tkL_len]
      omega
    · show (wtL (tkL _ _) : Int) ≤ _
      omega
  · have hn := nwN_le B m.kind m.pre m.at_ most
    have hn2 := nwN_200 B m.kind m.pre m.at_ most
    have hmk := mkChs_leM (k0 := 1) (M := 1048576) (y := nwY B m.kind m.pre m.at_ most) (nwN B m.kind m.pre m.at_ most) (fun i hi => by
      obtain ⟨j, hj, e⟩ := nwY_mem hi
      rw [e]
      exact fit_of_szH hb j hj)
    have hmul : nwN B m.kind m.pre m.at_ most * (8 + 1048576) ≤ 200 * (8 + 1048576) := Nat.mul_le_mul_right _ hn2
    have h1 := mkObs_le 1 m.os m.n
    rw [mkObs_wt] at h1
    have h5 := hm
    unfold szMr at h5
    have h3 : (tkL m.n m.os).length = m.n := tkL_len _ _
    unfold tkRes
    split
    · obtain ⟨b1, b2⟩ := tkTo_bound ⟨m.at_, m.seen, tkL m.n m.os⟩ (nwY B m.kind m.pre m.at_ most) (nwN B m.kind m.pre m.at_ most)
      have b1' : (tkTo ⟨m.at_, m.seen, tkL m.n m.os⟩ (nwY B m.kind m.pre m.at_ most) (nwN B m.kind m.pre m.at_ most)).l.length ≤ (tkL m.n m.os).length + nwN B m.kind m.pre m.at_ most := b1
      have b2' : wtL (tkTo ⟨m.at_, m.seen, tkL m.n m.os⟩ (nwY B m.kind m.pre m.at_ most) (nwN B m.kind m.pre m.at_ most)).l + 1 ≤ wtL (tkL m.n m.os) + mkChs 1 (nwY B m.kind m.pre m.at_ most) (nwN B m.kind m.pre m.at_ most) := b2
      exact ⟨by show ((tkTo _ _ _).l.length : Int) ≤ _; omega, by show (wtL (tkTo _ _ _).l : Int) ≤ _; omega⟩
    · exact ⟨by show ((tkL m.n m.os).length : Int) ≤ _; omega, by show (wtL (tkL m.n m.os) : Int) ≤ _; omega⟩
set_option maxRecDepth 100000 in
set_option maxHeartbeats 4000000 in
theorem step_law (B : Bk) (a1 a2 a3 : Option Addr) (c1 c2 c3 : Nat) (m : Mr) (a : Option Addr) (c : Nat) (most : Int) (w : World) (hf0 : BkFit0 B) (hmf : MrFit m) (hcb : BkIn w 0 w.heap.size B a1 a2 a3) (hc : ObjsIn w 0 w.heap.size a m.n m.os) :
    Calls Tryz.prog 7 #[.agg #[.int .i64 B.now, .int .i64 B.floor, .slice a1 B.on c1, .slice a2 B.hn c2, .slice a3 B.tn c3], .agg #[.string m.kind, .string m.pre, .int .i64 m.at_, .slice a m.n c, .int .i64 m.seen], .int .i64 most] w fun e w' => e = .returned (.bool true) ∧ Below w.heap.size w w' := by
  have hb0 : ∀ o1 o2, Below w.heap.size w ((w.alloc o1).alloc o2) := fun o1 o2 => (below_alloc _ _).alloc (by simp) _
  have HCB := hid hcb
  have HC := hid hc
  clear hc hcb
  go_enter Tryz.func7, Tryz.ntmps7
  go_wp2_with fail
  refine (szBk_any B a1 a2 a3 c1 c2 c3 1048576 _ (by omega) (by omega) 0 w.heap.size (by simp; omega) hf0 (HCB.out.below (hb0 _ _) (Nat.le_refl _))).mono ?_
  rintro e w1 ⟨rfl, hb1⟩
  have hB1 : Below w.heap.size w w1 := (hb0 _ _).trans (hb1.mono (by simp; omega))
  have hz1 : w.heap.size + 1 < w1.heap.size := by have := hb1.size; simp at this; omega
  obtain ⟨A0, A1, _, _⟩ := two_cell hb1
  have H1 : Holds w1 w.heap.size #[.int .i64 B.now, .int .i64 B.floor, .slice a1 B.on c1, .slice a2 B.hn c2, .slice a3 B.tn c3] := A0
  have M1 : Holds w1 (w.heap.size + 1) #[.string m.kind, .string m.pre, .int .i64 m.at_, .slice a m.n c, .int .i64 m.seen] := A1
  clear A0 A1 hb1
  generalize hl1 : szOut 1048576 (szBk B) = l1
  by_cases hsz : l1 < 0
  · clear H1 M1
    go_wp2
    go_ret
    exact ⟨rfl, hB1⟩
  obtain ⟨hs0, hs0'⟩ := szOut_ge (l := 1048576) (s := szBk B) (by omega)
  have hl1' : l1 ≤ 1048576 := by omega
  have hl1e : l1 = 1048576 - szBk B := by omega
  obtain ⟨q0, q1, q2, q3, q4⟩ := holds_m5 M1
  have HH := hid H1
  have HMM := hid M1
  have HL1 := hid hl1e
  clear H1 M1 hl1e
  go_wp2_with fail
  refine (szMr_any m a c _ w1 (by omega) (by omega) 0 w.heap.size (by omega) hmf (HC.out.below hB1 (Nat.le_refl _))).mono ?_
  rintro e w2 ⟨rfl, hb2⟩
  have hB2 : Below w.heap.size w w2 := hB1.trans (hb2.mono (by omega))
  have hz2 := hb2.size
  have H2 := HH.out.below hb2 (by omega)
  have M2 := HMM.out.below hb2 (by omega)
  clear hb2 q0 q1 q2 q3 q4 HH HMM
  generalize hl2 : szOut l1 (szMr m) = l2
  by_cases hsz2 : l2 < 0
  · clear H2 M2
    go_wp2
    go_ret
    exact ⟨rfl, hB2⟩
  obtain ⟨hm0, hm0'⟩ := szOut_ge (l := l1) (s := szMr m) (by omega)
  have hsm : (szBk B : Int) + szMr m ≤ 1048576 := by have := HL1.out; omega
  have hsb : szBk B ≤ 1048576 := by omega
  have hsr : szMr m ≤ 1048576 := by omega
  have hfit : BkFit B := by
    have h := hsb
    unfold szBk szObs szChs szTis at h
    exact ⟨by omega, by omega, by omega, hf0.os, hf0.hs, hf0.ts⟩
  have hon := (fit_of_sz hsb).1
  have hlim : (B.hn : Int) ≤ 1048576 ∧ (B.tn : Int) ≤ 1048576 := by
    have h := hsb
    unfold szBk szObs szChs szTis at h
    omega
  have hsum : (m.n : Int) + B.hn ≤ 1048576 := by
    have h := hsm
    unfold szBk szObs szChs szTis szMr szObs at h
    omega
  have hmn : (m.n : Int) ≤ 1048576 := by omega
  have hpr := hmf.p
  obtain ⟨hbd1, hbd2⟩ := stS_bound B m most hsb hsr hon hsum
  have hmb : (mkBk 1 B : Int) ≤ 1073741824 := by have := mkBk_le 1 B; omega
  have hmp : 1 ≤ mkBk 1 B := by
    unfold mkBk
    exact mkTis_pos _ _ _ (mkChs_pos _ _ _ (mkObs_pos 1 _ _ (Nat.le_refl _)))
  have hmk2 : (mkObs (mkBk 1 B) m.os m.n : Int) ≤ 1073741824 := by
    have h1 := mkBk_le 1 B
    have h2 := mkObs_le (mkBk 1 B) m.os m.n
    have h3 := hsr
    unfold szMr at h3
    omega
  obtain ⟨AT, hAT⟩ : ∃ AT, (stS B m most).at_ = AT := ⟨_, rfl⟩
  obtain ⟨SE, hSE⟩ : ∃ SE, (stS B m most).seen = SE := ⟨_, rfl⟩
  obtain ⟨ll, hll⟩ : ∃ ll, (stS B m most).l = ll := ⟨_, rfl⟩
  obtain ⟨rc, hrc⟩ : ∃ rc, stC B m most = rc := ⟨_, rfl⟩
  rw [hll] at hbd1 hbd2
  have HAT := hid hAT
  have HSE := hid hSE
  have HLL := hid hll
  have HRC := hid hrc
  have HMO := hid hmf.os
  have H2h := hid H2
  have M2h := hid M2
  have HFIT := hid hfit
  clear hAT hSE hll hrc H2 M2 hl1 hl2 hs0 hs0' hm0 hm0' hb0 hmf hf0 hfit HL1 hsm
  have za : w.heap.size < w2.heap.size := by omega
  have zb : w.heap.size + 1 < w2.heap.size := by omega
  go_wp2_with fail
  refine stpReg8 _ _ _ _ _ _ _ _ _ _ _ _ _ _ _ _ _ _ _ _ _ _ _ _ _ _ _ _ _ _ _ _ _ _ _ _ _ _ _ _ _ _ _ _ _ _ _ _ _ _ _ _ _ _ _ _ _ _ _ _ _ _ _ _ _ _ _ _ _ _ _ _ _ _ _ _ _ _ _ _ _ _ _ _ _ _ _ _ _ _ _ _ _ _ _ _ _ _ _ _ _ _ _ _ _ _ _ _ _ _ w.heap.size B a1 a2 a3 c1 c2 c3 m a c most HFIT.out hon hsum hpr HMO.out w2 H2h.out M2h.out (HCB.out.below hB2 (Nat.le_refl _)) (HC.out.below hB2 (Nat.le_refl _)) zb _ ?_
  rintro u0 u1 u2 u3 u4 u5 u6 u7 u8 b8 w3 ⟨adw, cw, nw0, yw0, lo6, hi6, z6, z6', ⟨c60, c61, c62, c63, c64⟩, hlw, hinw, hlo6, hhi6⟩ hb3
  rw [HAT.out] at c62
  rw [HSE.out] at c64
  rw [HLL.out] at hlw
  rw [HRC.out]
  have hB3 : Below w.heap.size w w3 := hB2.trans (hb3.mono (by omega))
  have hz3 := hb3.size
  have H3 := hid (H2h.out.below hb3 za)
  have M3 := hid (M2h.out.below hb3 zb)
  have HIW := hid hinw
  have HLW := hid hlw
  have C6 : Hid (H5 w3 b8 m.kind m.pre AT adw nw0 cw SE) := ⟨c60, c61, c62, c63, c64⟩
  clear c60 c61 c62 c63 c64 hinw hlw hb3 H2h M2h
  obtain ⟨p0, p1, p2, p3, p4⟩ := holds_bk H3.out
  go_wp2_with fail
  refine (toBk_any B a1 a2 a3 c1 c2 c3 w3 0 w.heap.size (by omega) HFIT.out (HCB.out.below hB3 (Nat.le_refl _))).mono ?_
  rintro e w4 ⟨g1, g2, g3, d1, d2, d3, rfl, hx4, hb4⟩
  obtain ⟨p, hp1, hp2, hp3, hp4, hp5⟩ := hx4.at
  rw [← hp1, ← hp2, ← hp3]
  have hz4 := hb4.size
  have hb4' : Below w3.heap.size w3 (w4.alloc (.cells #[.int .i64 B.now, .int .i64 B.floor, .slice p.a1 B.on d1, .slice p.a2 B.hn d2, .slice p.a3 B.tn d3] 32)) := hb4.alloc hb4.size _
  have hB4 : Below w.heap.size w (w4.alloc (.cells #[.int .i64 B.now, .int .i64 B.floor, .slice p.a1 B.on d1, .slice p.a2 B.hn d2, .slice p.a3 B.tn d3] 32)) := hB3.trans (hb4'.mono (by omega))
  have hs4 : (w4.alloc (.cells #[.int .i64 B.now, .int .i64 B.floor, .slice p.a1 B.on d1, .slice p.a2 B.hn d2, .slice p.a3 B.tn d3] 32)).heap.size = w4.heap.size + 1 := by simp
  have H4 := hid (H3.out.below hb4' (by omega))
  have M4 := hid (M3.out.below hb4' (by omega))
  have HIW4 := hid (HIW.out.below hb4' hhi6)
  have C64 := hid (C6.out.below hb4' z6')
  have XX := hid (hp4.grow (below_alloc w4 (.cells #[.int .i64 B.now, .int .i64 B.floor, .slice p.a1 B.on d1, .slice p.a2 B.hn d2, .slice p.a3 B.tn d3] 32)))
  have XB := hid hp5
  have V10 := hid (holds_new w4 #[.int .i64 B.now, .int .i64 B.floor, .slice p.a1 B.on d1, .slice p.a2 B.hn d2, .slice p.a3 B.tn d3] 32)
  have zm1 : w.heap.size + 1 < w4.heap.size := by omega
  obtain ⟨q0, q1, q2, q3, q4⟩ := holds_m5 (M3.out.below hb4 (by omega))
  clear p0 p1 p2 p3 p4 hb4 H3 M3 HIW C6 hx4 hp1 hp2 hp3 hp4 hp5 hb4'
  go_wp2_with fail
  refine (toMr_any m a c (w4.alloc (.cells #[.int .i64 B.now, .int .i64 B.floor, .slice p.a1 B.on d1, .slice p.a2 B.hn d2, .slice p.a3 B.tn d3] 32)) 0 w.heap.size (by rw [hs4]; omega) (by omega) HMO.out (HC.out.below hB4 (Nat.le_refl _))).mono ?_
  rintro e w5 ⟨gm, dm, Am, Cm, hm, rfl, hm5, hqm, hb5⟩
  have hz5 : w4.heap.size < w5.heap.size := by have := hb5.size; omega
  have hb5' : Below (w4.alloc (.cells #[.int .i64 B.now, .int .i64 B.floor, .slice p.a1 B.on d1, .slice p.a2 B.hn d2, .slice p.a3 B.tn d3] 32)).heap.size (w4.alloc (.cells #[.int .i64 B.now, .int .i64 B.floor, .slice p.a1 B.on d1, .slice p.a2 B.hn d2, .slice p.a3 B.tn d3] 32)) (w5.alloc (.cells #[.string m.kind, .string m.pre, .int .i64 m.at_, .slice (some ⟨gm, 0, none⟩) m.n dm, .int .i64 m.seen] 57)) := hb5.alloc hb5.size _
  have hB5 : Below w.heap.size w (w5.alloc (.cells #[.string m.kind, .string m.pre, .int .i64 m.at_, .slice (some ⟨gm, 0, none⟩) m.n dm, .int .i64 m.seen] 57)) := hB4.trans (hb5'.mono (by omega))
  have hs5 : (w5.alloc (.cells #[.string m.kind, .string m.pre, .int .i64 m.at_, .slice (some ⟨gm, 0, none⟩) m.n dm, .int .i64 m.seen] 57)).heap.size = w5.heap.size + 1 := by simp
  have HH5 := hid (H4.out.below hb5' (by omega))
  have MM5 := hid (M4.out.below hb5' (by omega))
  have HIW5 := hid (HIW4.out.below hb5' (by omega))
  have C65 := hid (C64.out.below hb5' (by omega))
  have XX5 := hid (XX.out.grow hb5')
  have V105 := hid (V10.out.below hb5' (by rw [hs4]; omega))
  have MO5 := hid (hm5.grow (below_alloc w5 (.cells #[.string m.kind, .string m.pre, .int .i64 m.at_, .slice (some ⟨gm, 0, none⟩) m.n dm, .int .i64 m.seen] 57)))
  have MB5 := hid (show ∀ q, blkH gm m.n (fun i => (m.os i).hn) hm q → w4.heap.size < q ∧ q < w5.heap.size from fun q hq => ⟨by have := hqm q hq; omega, hm5.blt hq⟩)
  have V11 := hid (holds_new w5 #[.string m.kind, .string m.pre, .int .i64 m.at_, .slice (some ⟨gm, 0, none⟩) m.n dm, .int .i64 m.seen] 57)
  obtain ⟨p0, p1, p2, p3, p4⟩ := holds_bk (V10.out.below hb5 (by rw [hs4]; omega))
  have zm2 : w4.heap.size < w5.heap.size := hz5
  clear q0 q1 q2 q3 q4 hb5 hb5' H4 M4 HIW4 C64 XX V10 hm5 hqm
  go_wp2_with fail
  refine (implStep_any B p d1 d2 d3 m _ dm most (w5.alloc (.cells #[.string m.kind, .string m.pre, .int .i64 m.at_, .slice (some ⟨gm, 0, none⟩) m.n dm, .int .i64 m.seen] 57)) HFIT.out hon hsum hpr HMO.out (by exact XX5.out) (by exact MO5.out.isIn (fun _ _ => Nat.zero_le _))).mono ?_
  rintro e w6 ⟨adg, cg, gg, L, rfl, hL, hLr, hLh, hLg, hLb, hb6⟩
  rw [HAT.out, HSE.out, HRC.out]
  rw [HLL.out] at hL
  have hz6 : w5.heap.size < w6.heap.size := by have := hb6.size; omega
  obtain ⟨nw, hnw⟩ : ∃ nw, L.length = nw := ⟨_, rfl⟩
  obtain ⟨y, hy⟩ : ∃ y : Nat → Ob, (fun i => (ixE L i).ob) = y := ⟨_, rfl⟩
  have hg6 := obsAt_of (ad := adg) (fun h => (hLr h).1) (fun h => (hLr h).2) hLh (fun e he h0 => (hLb e he h0).1)
  have hyl : tkL nw y = ll := by rw [← hnw, ← hy, tkL_map]; exact hL
  have hbg : ∀ q, blkH gg L.length (fun i => (ixE L i).ob.hn) (fun i => (ixE L i).hb) q → w5.heap.size < q := fun q hq => by
    rcases hq with ⟨h1, h2⟩ | ⟨i, h1, h2, h3⟩
    · have := hLg (fun e => by rw [e] at h1; exact absurd h1 (Nat.lt_irrefl _))
      omega
    · have h4 := (hLb _ (ixE_mem h1) h2).2
      have h5 : q = (ixE L i).hb := h3
      omega
  rw [hnw] at hg6
  have e6 : ∀ i, (ixE L i).ob = y i := fun i => by rw [← hy]
  simp only [e6] at hg6 hbg
  rw [hnw] at hbg
  obtain ⟨hn6, hy6⟩ := tkL_eq (HLW.out.trans hyl.symm)
  subst hn6
  have hmk : (mkObs 1 y nw0 : Int) ≤ 1073741824 := by
    rw [mkObs_wt, hyl]
    omega
  have HYH := hid (show ∀ i, i < nw0 → ((y i).hn : Int) ≤ 140737488355328 from fun i hi => by
    have h1 := wtL_mem (tkL_mem' (n := nw0) (y := y) hi)
    rw [hyl] at h1
    omega)
  have hnw2 : (nw0 : Int) ≤ 1048576 := by
    have := congrArg List.length hyl
    rw [tkL_len] at this
    omega
  have HYL := hid hyl
  rw [hnw]
  have hb6' : Below (w5.alloc (.cells #[.string m.kind, .string m.pre, .int .i64 m.at_, .slice (some ⟨gm, 0, none⟩) m.n dm, .int .i64 m.seen] 57)).heap.size (w5.alloc (.cells #[.string m.kind, .string m.pre, .int .i64 m.at_, .slice (some ⟨gm, 0, none⟩) m.n dm, .int .i64 m.seen] 57)) (w6.alloc (.cells #[.string m.kind, .string m.pre, .int .i64 AT, .slice adg nw0 cg, .int .i64 SE] 57)) := hb6.alloc hb6.size _
  have hB6 : Below w.heap.size w (w6.alloc (.cells #[.string m.kind, .string m.pre, .int .i64 AT, .slice adg nw0 cg, .int .i64 SE] 57)) := hB5.trans (hb6'.mono (by omega))
  have S6 : SSt (w6.alloc (.cells #[.string m.kind, .string m.pre, .int .i64 AT, .slice adg nw0 cg, .int .i64 SE] 57)) w.heap.size w3.heap.size b8 w4.heap.size w5.heap.size w6.heap.size B a1 a2 a3 c1 c2 c3 m a c AT SE nw0 y adw cw p d1 d2 d3 B gm dm Am Cm hm m.os adg cg gg (fun i => (ixE L i).A) (fun i => (ixE L i).C) (fun i => (ixE L i).hb) y :=
    ⟨HH5.out.below hb6' (by omega), MM5.out.below hb6' (by omega), HCB.out.below hB6 (Nat.le_refl _), HC.out.below hB6 (Nat.le_refl _), C65.out.below hb6' (by omega), ((HIW5.out.below hb6' (by omega)).congr hy6).wide (Nat.zero_le _) hhi6, V105.out.below hb6' (by omega), XX5.out.grow hb6', XB.out, V11.out.below hb6' (by omega), MO5.out.grow hb6', MB5.out, holds_new w6 _ 57, hg6.grow (below_alloc _ _), fun q hq => ⟨hbg q hq, hg6.blt hq⟩, ⟨by omega, by omega⟩, by omega, by omega, by omega, by simp⟩
  have HS6 := hid S6
  have z36 : w3.heap.size ≤ w6.heap.size := by omega
  clear S6 hb6 hb6' hg6 hbg e6 hy hL hLr hLh hLg hLb HH5 MM5 HIW5 C65 V105 XX5 XB V11 MO5 MB5 hyl hbd1 hbd2 hs4 hs5 hB4 hB5 p0 p1 p2 p3 p4 hy6
  obtain ⟨n0, n1, n2, n3, n4⟩ := HS6.out.v8
  have zb6 : b8 < w6.heap.size := by omega
  go_wp2_with fail
  refine (eqMr_any ⟨m.kind, m.pre, AT, nw0, y, SE⟩ adg adw cg cw _ 0 (w6.alloc (.cells #[.string m.kind, .string m.pre, .int .i64 AT, .slice adg nw0 cg, .int .i64 SE] 57)).heap.size 0 w3.heap.size (Nat.le_refl _) (by simp; omega) (by show (nw0 : Int) ≤ _; omega) HYH.out (by exact HS6.out.vg.isIn (fun _ _ => Nat.zero_le _)) HS6.out.vw).mono ?_
  rintro e w7 ⟨rfl, hb7⟩
  have HS7 := hid (HS6.out.below hb7)
  have hB7 : Below w.heap.size w w7 := hB6.trans (hb7.mono hB6.size)
  clear n0 n1 n2 n3 n4 hb7 HS6 hB6 zb6
  have o7 := HS7.out.o2
  go_wp2
  refine stpReg14 _ _ _ _ _ _ _ _ _ _ _ _ _ _ _ _ _ _ _ _ _ _ _ _ _ _ _ _ _ _ _ _ _ _ _ _ _ _ _ _ _ _ _ _ _ _ _ _ _ _ _ _ _ _ _ _ _ _ _ _ _ _ _ _ _ _ _ _ _ _ _ _ _ _ _ _ _ _ _ _ _ _ _ _ _ _ _ _ _ _ _ _ _ _ _ _ _ _ _ _ _ _ _ _ _ _ _ _ _ _ _ _ _ _ _ _ _ w.heap.size w4.heap.size B a1 a2 a3 c1 c2 c3 p d1 d2 d3 HFIT.out w7 HS7.out.v10 HS7.out.bb HS7.out.xx HS7.out.argb (by omega) (by omega) _ ?_
  intro t0 t1 t2 t3 w8 hb8
  have HS8 := hid (HS7.out.below hb8)
  have hB8 : Below w.heap.size w w8 := hB7.trans (hb8.mono hB7.size)
  clear hb8 HS7 hB7 o7
  have o8 := HS8.out.o2
  go_wp2
  refine stpReg16 _ _ _ _ _ _ _ _ _ _ _ _ _ _ _ _ _ _ _ _ _ _ _ _ _ _ _ _ _ _ _ _ _ _ _ _ _ _ _ _ _ _ _ _ _ _ _ _ _ _ _ _ _ _ _ _ _ _ _ _ _ _ _ _ _ _ _ _ _ _ _ _ _ _ _ _ _ _ _ _ _ _ _ _ _ _ _ _ _ _ _ _ _ _ _ _ _ _ _ _ _ _ _ _ _ _ _ _ _ _ _ _ _ _ _ _ _ w.heap.size w5.heap.size m a c gm dm Am Cm hm hmn HMO.out w8 HS8.out.v11 HS8.out.bm HS8.out.mm HS8.out.argm (by omega) (by omega) _ ?_
  intro t4 t5 t6 t7 w9 hb9
  have HS9 := hid (HS8.out.below hb9)
  have hB9 : Below w.heap.size w w9 := hB8.trans (hb9.mono hB8.size)
  clear hb9 HS8 hB8 o8
  obtain ⟨q0, q1, q2, q3, q4⟩ := holds_bk HS9.out.v10
  go_wp2_with fail
  refine (markBk_own B p d1 d2 d3 1 w9 hon hlim.1 hlim.2 (by decide) hmb HS9.out.xx).mono ?_
  rintro e w10 ⟨rfl, hx10, hf10⟩
  have HS10 := hid (HS9.out.markX 1 hx10 hf10)
  have hB10 : Below w.heap.size w w10 := hB9.trans (HS9.out.lowX hf10)
  clear q0 q1 q2 q3 q4 HS9 hB9 hx10 hf10
  obtain ⟨q0, q1, q2, q3, q4⟩ := holds_m5 HS10.out.v11
  go_wp2_with fail
  refine (markMr_own m _ gm Am Cm hm dm (mkBk 1 B) w10 hmn (by omega) hmk2 HS10.out.mm).mono ?_
  rintro e w11 ⟨rfl, hx11, hf11⟩
  have HS11 := hid (HS10.out.markM (mkBk 1 B) hx11 hf11)
  have hB11 : Below w.heap.size w w11 := hB10.trans (HS10.out.lowM hf11)
  obtain ⟨k9, hk9⟩ : ∃ k9, mkObs (mkBk 1 B) m.os m.n = k9 := ⟨_, rfl⟩
  rw [hk9]
  have hk9p : 0 ≤ (k9 : Int) := by omega
  clear q0 q1 q2 q3 q4 HS10 hB10 hx11 hf11 hk9
  obtain ⟨q0, q1, q2, q3, q4⟩ := holds_m5 HS11.out.v12
  obtain ⟨n0, n1, n2, n3, n4⟩ := HS11.out.v8
  have o11 := HS11.out.o2
  go_wp2_with fail
  refine (eqMr_any ⟨m.kind, m.pre, AT, nw0, y, SE⟩ adg adw cg cw w11 0 w11.heap.size 0 w3.heap.size (Nat.le_refl _) (by omega) (by show (nw0 : Int) ≤ _; omega) HYH.out (by exact HS11.out.vg.isIn (fun _ _ => Nat.zero_le _)) HS11.out.vw).mono ?_
  rintro e w12 ⟨rfl, hb12⟩
  have HS12 := hid (HS11.out.below hb12)
  have hB12 : Below w.heap.size w w12 := hB11.trans (hb12.mono hB11.size)
  clear q0 q1 q2 q3 q4 n0 n1 n2 n3 n4 HS11 hB11 hb12 o11
  obtain ⟨q0, q1, q2, q3, q4⟩ := holds_m5 HS12.out.v12
  go_wp2_with fail
  refine (markMr_own ⟨m.kind, m.pre, AT, nw0, y, SE⟩ adg gg _ _ _ cg 1 w12 hnw2 (by decide) hmk HS12.out.vg).mono ?_
  rintro e w13 ⟨rfl, hx13, hf13⟩
  have HS13 := hid (HS12.out.markG 1 hx13 hf13)
  have hB13 : Below w.heap.size w w13 := hB12.trans (HS12.out.lowG hf13)
  obtain ⟨m9, hm9⟩ : ∃ m9, mkObs 1 y nw0 = m9 := ⟨_, rfl⟩
  have HM9 := hid hm9
  have hm9p : 0 ≤ (m9 : Int) := by omega
  rw [show mkObs 1 (Mr.os ⟨m.kind, m.pre, AT, nw0, y, SE⟩) (Mr.n ⟨m.kind, m.pre, AT, nw0, y, SE⟩) = m9 from hm9]
  clear q0 q1 q2 q3 q4 HS12 hB12 hx13 hf13 hm9
  obtain ⟨q0, q1, q2, q3, q4⟩ := holds_m5 HS13.out.v12
  go_wp2_with fail
  refine (heldMr_own ⟨m.kind, m.pre, AT, nw0, y, SE⟩ adg gg _ _ _ cg 1 w13 y hnw2 (by decide) hmk HS13.out.vg).mono ?_
  rw [show mkObs 1 y (Mr.n ⟨m.kind, m.pre, AT, nw0, y, SE⟩) = m9 from HM9.out]
  rintro e w14 ⟨rfl, hb14⟩
  have HS14 := hid (HS13.out.below hb14)
  have hB14 : Below w.heap.size w w14 := hB13.trans (hb14.mono hB13.size)
  clear q0 q1 q2 q3 q4 HS13 hB13 hb14
  have o14 := HS14.out.o2
  go_wp2_with fail
  refine stpReg31 _ _ _ _ _ _ _ _ _ _ _ _ _ _ _ _ _ _ _ _ _ _ _ _ _ _ _ _ _ _ _ _ _ _ _ _ _ _ _ _ _ _ _ _ _ _ _ _ _ _ _ _ _ _ _ _ _ _ _ _ _ _ _ _ _ _ _ _ _ _ _ _ _ _ _ _ _ _ _ _ _ _ _ _ _ _ _ _ _ _ _ _ _ _ _ _ _ _ _ _ _ _ _ _ _ _ _ _ _ _ w.heap.size B a1 a2 a3 c1 c2 c3 m a c most HFIT.out hon hsum hpr HMO.out w14 HS14.out.bb HS14.out.bm HS14.out.argb HS14.out.argm (by omega) _ ?_
  rintro r0 r1 r2 r3 r4 r5 r6 r7 r8 b15 w15 ⟨adh, ch, nh, yh, loh, hih, zh, zh', ⟨d0', d1', d2', d3', d4'⟩, hlh, hinh, hloh, hhih⟩ hb15
  rw [HAT.out] at d2'
  rw [HSE.out] at d4'
  rw [HLL.out] at hlh
  rw [HRC.out]
  obtain ⟨rfl, hyh⟩ := tkL_eq (hlh.trans HYL.out.symm)
  have HIH := hid (hinh.congr hyh)
  have HS15 := hid (HS14.out.below hb15)
  have hB15 : Below w.heap.size w w15 := hB14.trans (hb15.mono hB14.size)
  obtain ⟨n0, n1, n2, n3, n4⟩ := HS15.out.v8
  have o15 := HS15.out.o2
  clear HS14 hB14 hb15 hinh hlh hyh o14
  go_wp2_with fail
  refine (eqMr_any ⟨m.kind, m.pre, AT, nh, y, SE⟩ adh adw ch cw w15 loh hih 0 w3.heap.size hhih (by omega) (by show (nh : Int) ≤ _; omega) HYH.out HIH.out HS15.out.vw).mono ?_
  rintro e w16 ⟨rfl, hb16⟩
  have HS16 := hid (HS15.out.below hb16)
  have hB16 : Below w.heap.size w w16 := hB15.trans (hb16.mono hB15.size)
  clear d0' d1' d2' d3' d4' n0 n1 n2 n3 n4 HS15 hB15 hb16 HIH o15
  obtain ⟨q0, q1, q2, q3, q4⟩ := holds_m5 HS16.out.v12
  go_wp2_with fail
  refine (heldMr_own ⟨m.kind, m.pre, AT, nh, y, SE⟩ adg gg _ _ _ cg 1 w16 y hnw2 (by decide) hmk HS16.out.vg).mono ?_
  rw [show mkObs 1 y (Mr.n ⟨m.kind, m.pre, AT, nh, y, SE⟩) = m9 from HM9.out]
  rintro e w17 ⟨rfl, hb17⟩
  have hB17 : Below w.heap.size w w17 := hB16.trans (hb17.mono hB16.size)
  clear q0 q1 q2 q3 q4 HS16 hB16 hb17
  go_wp2
  go_ret
  exact ⟨rfl, hB17⟩
end Go.Proofs.YtkecnaaacbckoaaGreat
namespace Go.Proofs.YtkecnaaacbckoaaGreat
open Go.ChangeShapes Go.WideShapes Go.ChangeAt Go.RowKit Go.Deep
theorem Tryz.c9 : Tryz.prog.cellsOf 9 = 1 := by kernel_rfl
theorem Tryz.c3 : Tryz.prog.cellsOf 3 = 1 := by kernel_rfl
theorem Tryz.c4 : Tryz.prog.cellsOf 4 = 1 := by kernel_rfl
theorem Tryz.c71 : Tryz.prog.cellsOf 71 = 1 := by kernel_rfl
theorem Tryz.c22 : Tryz.prog.cellsOf 22 = 1 := by kernel_rfl
theorem Tryz.c23 : Tryz.prog.cellsOf 23 = 1 := by kernel_rfl
theorem Tryz.c24 : Tryz.prog.cellsOf 24 = 1 := by kernel_rfl
theorem Tryz.c115 : Tryz.prog.cellsOf 115 = 7 := by kernel_rfl
theorem Tryz.c118 : Tryz.prog.cellsOf 118 = 9 := by kernel_rfl
theorem Tryz.c121 : Tryz.prog.cellsOf 121 = 5 := by kernel_rfl
theorem Tryz.c26 : Tryz.prog.cellsOf 26 = 5 := by kernel_rfl
theorem Tryz.b9 : Tryz.prog.bytesOf 9 = 16 := by kernel_rfl
theorem Tryz.b115 : Tryz.prog.bytesOf 115 = 96 := by kernel_rfl
theorem Tryz.b118 : Tryz.prog.bytesOf 118 = 112 := by kernel_rfl
theorem Tryz.b121 : Tryz.prog.bytesOf 121 = 56 := by kernel_rfl
def Fits {H : Type} (t : TypeId) (d : DataW H) : Prop := ∀ x ∈ DataW.weights Tryz.prog t d, x ≤ reachBytes
theorem weightsAll_mem {H : Type} {P : Program} {e : TypeId} : ∀ {l : List (DataW H)} {d : DataW H}, d ∈ l → ∀ x ∈ DataW.weights P e d, x ∈ DataW.weightsAll P e l
  | d0 :: r, d, h, x, hx => by
    rw [DataW.weightsAll]
    rcases List.mem_cons.1 h with rfl | h
    · exact List.mem_append_left _ hx
    · exact List.mem_append_right _ (weightsAll_mem h x hx)
set_option maxRecDepth 100000 in
theorem fits_slice {H : Type} {t e : TypeId} {es sp : List (DataW H)} (hu : Tryz.prog.underlying t = some (.slice e)) (h : Fits t (.slice es sp)) : (es.length + sp.length) * Tryz.prog.bytesOf e ≤ reachBytes ∧ ∀ d ∈ es, Fits e d := by
  refine ⟨h _ (by simp [DataW.weights, hu]), fun d hd x hx => h x ?_⟩
  simp only [DataW.weights, hu]
  exact List.mem_cons_of_mem _ (List.mem_append_left _ (weightsAll_mem hd x hx))
set_option maxRecDepth 100000 in
theorem fits_string {H : Type} {t : TypeId} {b : List UInt8} (h : Fits (H := H) t (.lit (.string b))) : b.length ≤ reachBytes := h _ (by simp [DataW.weights])
theorem cell_lt {W : World} {a : Addr} {v : Value} (h : W.cell? a = some v) : a.block < W.heap.size := by
  unfold World.cell? at h
  rcases Nat.lt_or_ge a.block W.heap.size with h1 | h1
  · exact h1
  · rw [Array.getElem?_eq_none h1] at h
    cases h
set_option maxRecDepth 100000 in
theorem openStrs {H : Type} {enc : TypeId × Value → H} {W : World} {fuel : Nat} {v : Value} {x : DataW H × List MemPlace} (h : DataW.trod enc Tryz.prog W 0 (fun _ => true) true fuel 71 [v] = some x) (hs : Fits 71 x.1) :
    ∃ ad n cap s, v = .slice ad n cap ∧ StrsIn W 0 W.heap.size ad n s ∧ (n : Int) ≤ 8796093022208 ∧ ∀ i, i < n → ((s i).size : Int) ≤ 140737488355328 := by
  rcases open_strs Tryz.underlying71 Tryz.underlying9 Tryz.c9 h with ⟨hc, _⟩ | ⟨a, len, cap, m, s, hc, _, hl, _, hm, hx, hcell⟩
  · simp only [List.cons.injEq, and_true] at hc
    exact ⟨none, 0, 0, fun _ => ⟨#[]⟩, hc, fun i hi => absurd hi (Nat.not_lt_zero _), by omega, fun i hi => absurd hi (Nat.not_lt_zero _)⟩
  · simp only [List.cons.injEq, and_true] at hc
    simp only [if_true] at hm
    subst hm
    subst hx
    obtain ⟨f1, f2⟩ := fits_slice Tryz.underlying71 hs
    simp only [List.length_map, List.length_range, Tryz.b9, reachBytes] at f1
    refine ⟨some a, len, m, s, hc, fun i hi => ?_, by omega, fun i hi => ?_⟩
    · obtain ⟨b, off, spot⟩ := a
      have hspot : spot = none := by simpa [Addr.add] using World.cell?_spot (hcell 0 (by omega)).1
      subst hspot
      have hci := (hcell i (by omega)).1
      have ea : ((⟨b, off, none⟩ : Addr).add i) = ⟨b, off + i, none⟩ := by simp [Addr.add]
      rw [ea] at hci
      exact ⟨b, off, rfl, Nat.zero_le _, cell_lt hci, hci⟩
    · have := fits_string (f2 _ (List.mem_map.2 ⟨i, List.mem_range.2 hi, rfl⟩))
      have e : (s i).data.toList.length = (s i).size := rfl
      simp only [reachBytes] at this
      omega
theorem list7 {α : Type} {l : List α} (h : l.length = 7) : ∃ a b c d e f g, l = [a, b, c, d, e, f, g] := by
  match l, h with
  | [a, b, c, d, e, f, g], _ => exact ⟨a, b, c, d, e, f, g, rfl⟩
theorem list5 {α : Type} {l : List α} (h : l.length = 5) : ∃ a b c d e, l = [a, b, c, d, e] := by
  match l, h with
  | [a, b, c, d, e], _ => exact ⟨a, b, c, d, e, rfl⟩
theorem list3 {α : Type} {l : List α} (h : l.length = 3) : ∃ a b c, l = [a, b, c] := by
  match l, h with
  | [a, b, c], _ => exact ⟨a, b, c, rfl⟩
theorem list9 {α : Type} {l : List α} (h : l.length = 9) : ∃ a b c d e f g i j, l = [a, b, c, d, e, f, g, i, j] := by
  match l, h with
  | [a, b, c, d, e, f, g, i, j], _ => exact ⟨a, b, c, d, e, f, g, i, j, rfl⟩
set_option maxRecDepth 100000 in
theorem fit_str {H : Type} {enc : TypeId × Value → H} {W : World} {n : Nat} {v : Value} {y : DataW H × List MemPlace} (h : DataW.trod enc Tryz.prog W 0 (fun _ => true) true n 9 [v] = some y) (hs : Fits 9 y.1) : ∃ s : ByteArray, v = .string s ∧ (s.size : Int) ≤ 140737488355328 := by
  obtain ⟨s, h1, h2, _⟩ := DataW.trod_string Tryz.underlying9 h
  subst h2
  have := fits_string hs
  have e : s.data.toList.length = s.size := rfl
  simp only [reachBytes] at this
  exact ⟨s, by simpa using h1, by omega⟩
set_option maxRecDepth 100000 in
theorem fit_int {H : Type} {enc : TypeId × Value → H} {W : World} {n : Nat} {v : Value} {y : DataW H × List MemPlace} (h : DataW.trod enc Tryz.prog W 0 (fun _ => true) true n 3 [v] = some y) : ∃ a : Int, v = .int .i64 a := by
  obtain ⟨a, h1, _⟩ := DataW.trod_int Tryz.underlying3 h
  exact ⟨a, by simpa using h1⟩
set_option maxRecDepth 100000 in
theorem fit_intw {H : Type} {enc : TypeId × Value → H} {W : World} {n : Nat} {v : Value} {y : DataW H × List MemPlace} (h : DataW.trod enc Tryz.prog W 0 (fun _ => true) true n 3 [v] = some y) : ∃ a : Int, v = .int .i64 a ∧ (Lit.int .i64 a).wf = true := by
  obtain ⟨a, h1, _, h3⟩ := DataW.trod_int Tryz.underlying3 h
  exact ⟨a, by simpa using h1, h3⟩
set_option maxRecDepth 100000 in
theorem fit_bool {H : Type} {enc : TypeId × Value → H} {W : World} {n : Nat} {v : Value} {y : DataW H × List MemPlace} (h : DataW.trod enc Tryz.prog W 0 (fun _ => true) true n 4 [v] = some y) : ∃ a : Bool, v = .bool a := by
  obtain ⟨a, h1, _⟩ := DataW.trod_bool Tryz.underlying4 h
  exact ⟨a, by simpa using h1⟩
set_option maxRecDepth 100000 in
theorem openOb {H : Type} {enc : TypeId × Value → H} {W : World} {fuel : Nat} {cs : List Value} {x : DataW H × List MemPlace} (h : DataW.trod enc Tryz.prog W 0 (fun _ => true) true fuel 115 cs = some x) (hs : Fits 115 x.1) :
    ∃ (o : Ob) (ah : Option Addr) (ch : Nat), cs = [.string o.kind, .string o.name, .int .i64 o.ver, .int .i64 o.born, .string o.text, .bool o.ending, .slice ah o.hn ch] ∧ StrsIn W 0 W.heap.size ah o.hn o.hs ∧ ObFit o := by
  obtain ⟨xs, n, _, rfl, hlen, hxl, hf⟩ := DataW.trod_struct Tryz.underlying115 h
  rw [Tryz.c115] at hlen
  obtain ⟨c0, c1, c2, c3, c4, c5, c6, rfl⟩ := list7 hlen
  obtain ⟨y0, y1, y2, y3, y4, y5, y6, rfl⟩ := list7 (show xs.length = 7 from hxl)
  have g0 := hf 0 _ rfl
  have g1 := hf 1 _ rfl
  have g2 := hf 2 _ rfl
  have g3 := hf 3 _ rfl
  have g4 := hf 4 _ rfl
  have g5 := hf 5 _ rfl
  have g6 := hf 6 _ rfl
  simp only [List.getElem?_cons_succ, List.getElem?_cons_zero] at g0 g1 g2 g3 g4 g5 g6
  have hs' : ∀ z, z ∈ DataW.weights Tryz.prog 9 y0.1 ∨ z ∈ DataW.weights Tryz.prog 9 y1.1 ∨ z ∈ DataW.weights Tryz.prog 9 y4.1 ∨ z ∈ DataW.weights Tryz.prog 71 y6.1 → z ≤ reachBytes := fun z hz => hs z (by
    simp only [List.map_cons, List.map_nil, DataW.weights, Tryz.underlying115, DataW.weightsEach, List.mem_append]
    rcases hz with hz | hz | hz | hz <;> simp [hz])
  obtain ⟨k, rfl, fk⟩ := fit_str g0 (fun z hz => hs' z (Or.inl hz))
  obtain ⟨nm, rfl, fn⟩ := fit_str g1 (fun z hz => hs' z (Or.inr (Or.inl hz)))
  obtain ⟨ve, rfl, wv⟩ := fit_intw g2
  obtain ⟨bo, rfl⟩ := fit_int g3
  obtain ⟨te, rfl, ft⟩ := fit_str g4 (fun z hz => hs' z (Or.inr (Or.inr (Or.inl hz))))
  obtain ⟨en, rfl⟩ := fit_bool g5
  obtain ⟨ah, hn, ch, s, rfl, hst, fh, fs⟩ := openStrs g6 (fun z hz => hs' z (Or.inr (Or.inr (Or.inr hz))))
  exact ⟨⟨k, nm, ve, bo, te, en, hn, s⟩, ah, ch, rfl, hst, ⟨fk, fn, ft, fh, fs, wv⟩⟩
set_option maxRecDepth 100000 in
theorem openCh {H : Type} {enc : TypeId × Value → H} {W : World} {fuel : Nat} {cs : List Value} {x : DataW H × List MemPlace} (h : DataW.trod enc Tryz.prog W 0 (fun _ => true) true fuel 118 cs = some x) (hs : Fits 118 x.1) :
    ∃ (o : Ch) (ah : Option Addr) (ch : Nat), cs = [.int .i64 o.ver, .bool o.gone, .string o.ob.kind, .string o.ob.name, .int .i64 o.ob.ver, .int .i64 o.ob.born, .string o.ob.text, .bool o.ob.ending, .slice ah o.ob.hn ch] ∧ StrsIn W 0 W.heap.size ah o.ob.hn o.ob.hs ∧ ObFit o.ob := by
  obtain ⟨xs, n, _, rfl, hlen, hxl, hf⟩ := DataW.trod_struct Tryz.underlying118 h
  rw [Tryz.c118] at hlen
  obtain ⟨c0, c1, c2, c3, c4, c5, c6, c7, c8, rfl⟩ := list9 hlen
  obtain ⟨y0, y1, y2, rfl⟩ := list3 (show xs.length = 3 from hxl)
  have g0 := hf 0 _ rfl
  have g1 := hf 1 _ rfl
  have g2 := hf 2 _ rfl
  simp only [List.getElem?_cons_succ, List.getElem?_cons_zero] at g0 g1 g2
  have hs' : Fits 115 y2.1 := fun z hz => hs z (by
    simp only [List.map_cons, List.map_nil, DataW.weights, Tryz.underlying118, DataW.weightsEach, List.mem_append]
    simp [hz])
  obtain ⟨ve, rfl⟩ := fit_int g0
  obtain ⟨go, rfl⟩ := fit_bool g1
  obtain ⟨o, ah, ch, hcs, hst, hfit⟩ := openOb g2 hs'
  exact ⟨⟨ve, go, o⟩, ah, ch, congrArg (fun l => Value.int .i64 ve :: Value.bool go :: l) hcs, hst, hfit⟩
set_option maxRecDepth 100000 in
theorem openTi {H : Type} {enc : TypeId × Value → H} {W : World} {fuel : Nat} {cs : List Value} {x : DataW H × List MemPlace} (h : DataW.trod enc Tryz.prog W 0 (fun _ => true) true fuel 121 cs = some x) (hs : Fits 121 x.1) :
    ∃ o : Ti, cs = [.string o.client, .int .i64 o.num, .string o.print, .int .i64 o.code, .int .i64 o.ver] ∧ TiFit o := by
  obtain ⟨xs, n, _, rfl, hlen, hxl, hf⟩ := DataW.trod_struct Tryz.underlying121 h
  rw [Tryz.c121] at hlen
  obtain ⟨c0, c1, c2, c3, c4, rfl⟩ := list5 hlen
  obtain ⟨y0, y1, y2, y3, y4, rfl⟩ := list5 (show xs.length = 5 from hxl)
  have g0 := hf 0 _ rfl
  have g1 := hf 1 _ rfl
  have g2 := hf 2 _ rfl
  have g3 := hf 3 _ rfl
  have g4 := hf 4 _ rfl
  simp only [List.getElem?_cons_succ, List.getElem?_cons_zero] at g0 g1 g2 g3 g4
  have hs' : ∀ z, z ∈ DataW.weights Tryz.prog 9 y0.1 ∨ z ∈ DataW.weights Tryz.prog 9 y2.1 → z ≤ reachBytes := fun z hz => hs z (by
    simp only [List.map_cons, List.map_nil, DataW.weights, Tryz.underlying121, DataW.weightsEach, List.mem_append]
    rcases hz with hz | hz <;> simp [hz])
  obtain ⟨k, rfl, fk⟩ := fit_str g0 (fun z hz => hs' z (Or.inl hz))
  obtain ⟨nu, rfl⟩ := fit_int g1
  obtain ⟨pr, rfl, fp⟩ := fit_str g2 (fun z hz => hs' z (Or.inr hz))
  obtain ⟨co, rfl⟩ := fit_int g3
  obtain ⟨ve, rfl⟩ := fit_int g4
  exact ⟨⟨k, nu, pr, co, ve⟩, rfl, ⟨fk, fp⟩⟩
set_option maxRecDepth 100000 in
/-- a slice that came in, its elements of z cells each -/
theorem openSl {H : Type} {enc : TypeId × Value → H} {W : World} {fuel : Nat} {v : Value} {x : DataW H × List MemPlace} {t e : TypeId} {z : Nat} (ht : Tryz.prog.underlying t = some (.slice e)) (hz : Tryz.prog.cellsOf e = z) (hz0 : 0 < z) (h : DataW.trod enc Tryz.prog W 0 (fun _ => true) true fuel t [v] = some x) (hs : Fits t x.1) (hb : 16 ≤ Tryz.prog.bytesOf e) :
    ∃ ad n cap, v = .slice ad n cap ∧ (n : Int) ≤ 8796093022208 ∧ ∀ i, i < n → ∃ (b off : Nat) (cs : List Value) (k : Nat) (y : DataW H × List MemPlace), ad = some ⟨b, off, none⟩ ∧ b < W.heap.size ∧ (∀ j, j < z → W.cell? ⟨b, off + i * z + j, none⟩ = cs[j]?) ∧ DataW.trod enc Tryz.prog W 0 (fun _ => true) true k e cs = some y ∧ Fits e y.1 := by
  rcases open_slice ht h with ⟨hc, _⟩ | ⟨a, len, cap, m, n, D, Pl, hc, _, hl, _, hm, hx, hel⟩
  · simp only [List.cons.injEq, and_true] at hc
    exact ⟨none, 0, 0, hc, by omega, fun i hi => absurd hi (Nat.not_lt_zero _)⟩
  · simp only [List.cons.injEq, and_true] at hc
    simp only [if_true] at hm
    subst hm
    subst hx
    obtain ⟨f1, f2⟩ := fits_slice ht hs
    simp only [List.length_map, List.length_range, reachBytes] at f1
    have f3 : (len + (m - len)) * 16 ≤ 140737488351232 := Nat.le_trans (Nat.mul_le_mul_left _ hb) f1
    refine ⟨some a, len, m, hc, by omega, fun i hi => ?_⟩
    obtain ⟨cs, h1, h2⟩ := hel i (by omega)
    rw [hz] at h1
    obtain ⟨_, hcl, hcc⟩ := World.cells?_some h1
    obtain ⟨cs0, h10, _⟩ := hel 0 (by omega)
    rw [hz] at h10
    obtain ⟨_, hcl0, hcc0⟩ := World.cells?_some h10
    obtain ⟨b, off, spot⟩ := a
    have hspot : spot = none := by
      have := hcc0 0 hz0
      rw [List.getElem?_eq_getElem (by omega)] at this
      simpa [Addr.add] using World.cell?_spot this
    subst hspot
    have ea : ∀ j, (((⟨b, off, none⟩ : Addr).add (i * z)).add j) = ⟨b, off + i * z + j, none⟩ := fun j => by simp [add_plain]
    have hb' : b < W.heap.size := by
      have := hcc 0 hz0
      rw [ea, List.getElem?_eq_getElem (by omega)] at this
      exact cell_lt this
    exact ⟨b, off, cs, n, _, rfl, hb', fun j hj => by rw [← ea]; exact hcc j hj, h2, f2 _ (List.mem_map.2 ⟨i, List.mem_range.2 hi, rfl⟩)⟩
set_option maxRecDepth 100000 in
theorem openObs {H : Type} {enc : TypeId × Value → H} {W : World} {fuel : Nat} {v : Value} {x : DataW H × List MemPlace} (h : DataW.trod enc Tryz.prog W 0 (fun _ => true) true fuel 22 [v] = some x) (hs : Fits 22 x.1) :
    ∃ ad n cap xs, v = .slice ad n cap ∧ (n : Int) ≤ 8796093022208 ∧ ObjsIn W 0 W.heap.size ad n xs ∧ ∀ i, i < n → ObFit (xs i) := by
  obtain ⟨ad, n, cap, rfl, hn, hel⟩ := openSl Tryz.underlying22 Tryz.c115 (by omega) h hs (by rw [Tryz.b115]; omega)
  obtain ⟨xs, hxs⟩ := skol (⟨⟨#[]⟩, ⟨#[]⟩, 0, 0, ⟨#[]⟩, false, 0, fun _ => ⟨#[]⟩⟩ : Ob) (p := fun i o => (∃ b off ah ch, ad = some ⟨b, off, none⟩ ∧ 0 ≤ b ∧ b < W.heap.size ∧ ObCells W b (off + i * 7) o ah ch ∧ StrsIn W 0 W.heap.size ah o.hn o.hs) ∧ ObFit o) (fun i hi => by
    obtain ⟨b, off, cs, k, y, rfl, hb, hc, ht, hf⟩ := hel i hi
    obtain ⟨o, ah, ch, rfl, hst, hfit⟩ := openOb ht hf
    exact ⟨o, ⟨b, off, ah, ch, rfl, Nat.zero_le _, hb, ⟨hc 0 (by omega), hc 1 (by omega), hc 2 (by omega), hc 3 (by omega), hc 4 (by omega), hc 5 (by omega), hc 6 (by omega)⟩, hst⟩, hfit⟩)
  exact ⟨ad, n, cap, xs, rfl, hn, fun i hi => (hxs i hi).1, fun i hi => (hxs i hi).2⟩
set_option maxRecDepth 100000 in
theorem openChs {H : Type} {enc : TypeId × Value → H} {W : World} {fuel : Nat} {v : Value} {x : DataW H × List MemPlace} (h : DataW.trod enc Tryz.prog W 0 (fun _ => true) true fuel 23 [v] = some x) (hs : Fits 23 x.1) :
    ∃ ad n cap xs, v = .slice ad n cap ∧ (n : Int) ≤ 8796093022208 ∧ ChgsIn W 0 W.heap.size ad n xs ∧ ∀ i, i < n → ObFit (xs i).ob := by
  obtain ⟨ad, n, cap, rfl, hn, hel⟩ := openSl Tryz.underlying23 Tryz.c118 (by omega) h hs (by rw [Tryz.b118]; omega)
  obtain ⟨xs, hxs⟩ := skol (⟨0, false, ⟨⟨#[]⟩, ⟨#[]⟩, 0, 0, ⟨#[]⟩, false, 0, fun _ => ⟨#[]⟩⟩⟩ : Ch) (p := fun i o => (∃ b off ah ch, ad = some ⟨b, off, none⟩ ∧ 0 ≤ b ∧ b < W.heap.size ∧ ChCells W b (off + i * 9) o ah ch ∧ StrsIn W 0 W.heap.size ah o.ob.hn o.ob.hs) ∧ ObFit o.ob) (fun i hi => by
    obtain ⟨b, off, cs, k, y, rfl, hb, hc, ht, hf⟩ := hel i hi
    obtain ⟨o, ah, ch, rfl, hst, hfit⟩ := openCh ht hf
    exact ⟨o, ⟨b, off, ah, ch, rfl, Nat.zero_le _, hb, ⟨hc 0 (by omega), hc 1 (by omega), hc 2 (by omega), hc 3 (by omega), hc 4 (by omega), hc 5 (by omega), hc 6 (by omega), hc 7 (by omega), hc 8 (by omega)⟩, hst⟩, hfit⟩)
  exact ⟨ad, n, cap, xs, rfl, hn, fun i hi => (hxs i hi).1, fun i hi => (hxs i hi).2⟩
set_option maxRecDepth 100000 in
theorem openTis {H : Type} {enc : TypeId × Value → H} {W : World} {fuel : Nat} {v : Value} {x : DataW H × List MemPlace} (h : DataW.trod enc Tryz.prog W 0 (fun _ => true) true fuel 24 [v] = some x) (hs : Fits 24 x.1) :
    ∃ ad n cap xs, v = .slice ad n cap ∧ (n : Int) ≤ 8796093022208 ∧ TicsIn W 0 W.heap.size ad n xs ∧ ∀ i, i < n → TiFit (xs i) := by
  obtain ⟨ad, n, cap, rfl, hn, hel⟩ := openSl Tryz.underlying24 Tryz.c121 (by omega) h hs (by rw [Tryz.b121]; omega)
  obtain ⟨xs, hxs⟩ := skol (⟨⟨#[]⟩, 0, ⟨#[]⟩, 0, 0⟩ : Ti) (p := fun i o => (∃ b off, ad = some ⟨b, off, none⟩ ∧ 0 ≤ b ∧ b < W.heap.size ∧ TiCells W b (off + i * 5) o) ∧ TiFit o) (fun i hi => by
    obtain ⟨b, off, cs, k, y, rfl, hb, hc, ht, hf⟩ := hel i hi
    obtain ⟨o, rfl, hfit⟩ := openTi ht hf
    exact ⟨o, ⟨b, off, rfl, Nat.zero_le _, hb, ⟨hc 0 (by omega), hc 1 (by omega), hc 2 (by omega), hc 3 (by omega), hc 4 (by omega)⟩⟩, hfit⟩)
  exact ⟨ad, n, cap, xs, rfl, hn, fun i hi => (hxs i hi).1, fun i hi => (hxs i hi).2⟩
set_option maxRecDepth 100000 in
/-- a book that came in by value -/
theorem openBk {H : Type} {enc : TypeId × Value → H} {W : World} {b0 : Nat} {v : Value} {d : DataW H} {p : List MemPlace} (hv : Value.okWide Tryz.prog W .any b0 26 v) (h : DataW.Trod enc Tryz.prog W 0 (fun _ => true) true 26 v d p) (hs : Fits 26 d) :
    ∃ (x : Bk) (a1 a2 a3 : Option Addr) (c1 c2 c3 : Nat), v = .agg #[.int .i64 x.now, .int .i64 x.floor, .slice a1 x.on c1, .slice a2 x.hn c2, .slice a3 x.tn c3] ∧ BkIn W 0 W.heap.size x a1 a2 a3 ∧ BkFit0 x := by
  obtain ⟨cs, rfl, hsz⟩ := okWide_struct Tryz.underlying26 hv
  obtain ⟨fuel, hf0⟩ := h
  obtain ⟨xs, n, _, hx, hlen, hxl, hf⟩ := DataW.trod_struct Tryz.underlying26 hf0
  simp only [Prod.mk.injEq] at hx
  obtain ⟨rfl, rfl⟩ := hx
  rw [Tryz.c26] at hsz
  obtain ⟨e0, e1, e2, e3, e4, he⟩ := list5 (show cs.toList.length = 5 by simpa using hsz)
  obtain rfl : cs = #[e0, e1, e2, e3, e4] := by
    apply Array.ext'
    simpa using he
  obtain ⟨y0, y1, y2, y3, y4, rfl⟩ := list5 (show xs.length = 5 from hxl)
  have g0 := hf 0 _ rfl
  have g1 := hf 1 _ rfl
  have g2 := hf 2 _ rfl
  have g3 := hf 3 _ rfl
  have g4 := hf 4 _ rfl
  simp only [List.getElem?_cons_succ, List.getElem?_cons_zero] at g0 g1 g2 g3 g4
  have hs' : ∀ z, z ∈ DataW.weights Tryz.prog 22 y2.1 ∨ z ∈ DataW.weights Tryz.prog 23 y3.1 ∨ z ∈ DataW.weights Tryz.prog 24 y4.1 → z ≤ reachBytes := fun z hz => hs z (by
    simp only [List.map_cons, List.map_nil, DataW.weights, Tryz.underlying26, DataW.weightsEach, List.mem_append]
    rcases hz with hz | hz | hz <;> simp [hz])
  obtain ⟨no, rfl⟩ := fit_int g0
  obtain ⟨fl, rfl⟩ := fit_int g1
  obtain ⟨a1, n1, c1, x1, rfl, b1, i1, j1⟩ := openObs g2 (fun z hz => hs' z (Or.inl hz))
  obtain ⟨a2, n2, c2, x2, rfl, b2, i2, j2⟩ := openChs g3 (fun z hz => hs' z (Or.inr (Or.inl hz)))
  obtain ⟨a3, n3, c3, x3, rfl, b3, i3, j3⟩ := openTis g4 (fun z hz => hs' z (Or.inr (Or.inr hz)))
  exact ⟨⟨no, fl, n1, x1, n2, x2, n3, x3⟩, a1, a2, a3, c1, c2, c3, rfl, ⟨i1, i2, i3⟩, ⟨b1, b2, b3, j1, j2, j3⟩⟩
end Go.Proofs.YtkecnaaacbckoaaGreat
namespace Go.Proofs.YtkecnaaacbckoaaGreat
open Go.ChangeShapes Go.WideShapes Go.ChangeAt Go.RowKit Go.Deep
open Go.WideMaps Go.WideElems
theorem Tryz.own : ownKnob Tryz.prog.godebug = none := by kernel_rfl
theorem Tryz.c54 : Tryz.prog.cellsOf 54 = 5 := by kernel_rfl
set_option maxRecDepth 100000 in
/-- a mirror that came in by value -/
theorem openMr {H : Type} {enc : TypeId × Value → H} {W : World} {b0 : Nat} {v : Value} {d : DataW H} {p : List MemPlace} (hv : Value.okWide Tryz.prog W .any b0 54 v) (h : DataW.Trod enc Tryz.prog W 0 (fun _ => true) true 54 v d p) (hs : Fits 54 d) :
    ∃ (m : Mr) (a : Option Addr) (c : Nat), v = .agg #[.string m.kind, .string m.pre, .int .i64 m.at_, .slice a m.n c, .int .i64 m.seen] ∧ ObjsIn W 0 W.heap.size a m.n m.os ∧ MrFit m := by
  obtain ⟨cs, rfl, hsz⟩ := okWide_struct Tryz.underlying54 hv
  obtain ⟨fuel, hf0⟩ := h
  obtain ⟨xs, n, _, hx, hlen, hxl, hf⟩ := DataW.trod_struct Tryz.underlying54 hf0
  simp only [Prod.mk.injEq] at hx
  obtain ⟨rfl, rfl⟩ := hx
  rw [Tryz.c54] at hsz
  obtain ⟨e0, e1, e2, e3, e4, he⟩ := list5 (show cs.toList.length = 5 by simpa using hsz)
  obtain rfl : cs = #[e0, e1, e2, e3, e4] := by
    apply Array.ext'
    simpa using he
  obtain ⟨y0, y1, y2, y3, y4, rfl⟩ := list5 (show xs.length = 5 from hxl)
  have g0 := hf 0 _ rfl
  have g1 := hf 1 _ rfl
  have g2 := hf 2 _ rfl
  have g3 := hf 3 _ rfl
  have g4 := hf 4 _ rfl
  simp only [List.getElem?_cons_succ, List.getElem?_cons_zero] at g0 g1 g2 g3 g4
  have hs' : ∀ z, z ∈ DataW.weights Tryz.prog 9 y0.1 ∨ z ∈ DataW.weights Tryz.prog 9 y1.1 ∨ z ∈ DataW.weights Tryz.prog 22 y3.1 → z ≤ reachBytes := fun z hz => hs z (by
    simp only [List.map_cons, List.map_nil, DataW.weights, Tryz.underlying54, DataW.weightsEach, List.mem_append]
    rcases hz with hz | hz | hz <;> simp [hz])
  obtain ⟨k, rfl, fk⟩ := fit_str g0 (fun z hz => hs' z (Or.inl hz))
  obtain ⟨pr, rfl, fp⟩ := fit_str g1 (fun z hz => hs' z (Or.inr (Or.inl hz)))
  obtain ⟨at', rfl⟩ := fit_int g2
  obtain ⟨a1, n1, c1, x1, rfl, b1, i1, j1⟩ := openObs g3 (fun z hz => hs' z (Or.inr (Or.inr hz)))
  obtain ⟨se, rfl⟩ := fit_int g4
  exact ⟨⟨k, pr, at', n1, x1, se⟩, a1, c1, rfl, i1, ⟨fk, fp, b1, j1⟩⟩
set_option maxRecDepth 100000 in
theorem step_lifted (os : Os) (started : os.Started) (H : Type) (enc : TypeId × Value → H) :
    ReturnsInHanded {} Tryz.checked os 7 .any (Rows.fnExactBookStepSpec.pre6 enc Tryz.prog Tryz.f7 Rows.fnExactBookStepRow.domain false) (Rows.fnExactBookStepSpec.post enc Tryz.prog Tryz.f7 false true false false) := by
  refine returnsInHanded_of_change_sized (C := Tryz.checked) Tryz.own started (by kernel_rfl) Tryz.func7
    (ChangeSpec.witness6 (enc := enc) (C := Tryz.checked) false ⟨#[], #[.agg #[.int .i64 0, .int .i64 0, .slice none 0 0, .slice none 0 0, .slice none 0 0], .agg #[.string ⟨#[]⟩, .string ⟨#[]⟩, .int .i64 0, .slice none 0 0, .int .i64 0], .int .i64 0], []⟩ 8 (by kernel_rfl) (by kernel_rfl) (by kernel_rfl) (by kernel_rfl)) ?_
  intro W base args ds gs before hval0 hW _ hsz0 _
  have hsz : (DataW.weightsEach Tryz.prog (Tryz.f7.params.toList ++ Rows.fnExactBookStepSpec.plain.varTypes Tryz.prog) (ds ++ gs)).all (· ≤ reachBytes) = true := hsz0
  clear hsz0
  have hval : ∀ (j : Nat) t v, Tryz.f7.params[j]? = some t → args[j]? = some v → Value.okWide Tryz.prog W .any base t v := hval0
  have hW' := hW
  obtain ⟨p, q, hA0, hV, rfl, _, _⟩ := hW
  have hA : DataW.TrodAll enc Tryz.prog W 0 (fun _ => true) true Tryz.f7.params.toList args.toList ds p := hA0
  rw [Tryz.params7] at hA hval hsz
  obtain ⟨v0, v1, v2, d0, d1, d2, p0, p1, p2, rfl, rfl, rfl, h0, h1, h2⟩ := trodAll_three hA
  obtain ⟨rfl, rfl⟩ := trodVars_none hV
  have hfit : Fits 26 d0 := fun x hx => by
    have := List.all_eq_true.1 hsz x (DataW.weights_mem_each (j := 0) (t := 26) rfl rfl x hx)
    simpa using this
  have hfit1 : Fits 54 d1 := fun x hx => by
    have := List.all_eq_true.1 hsz x (DataW.weights_mem_each (j := 1) (t := 54) rfl rfl x hx)
    simpa using this
  obtain ⟨n1, rfl, rfl, rfl, hn1⟩ := open_int Tryz.underlying3 (hval 2 3 v2 rfl rfl) h2
  have h0k := h0
  have h1k := h1
  obtain ⟨x, a1, a2, a3, c1, c2, c3, rfl, hin, hbf⟩ := openBk (hval 0 26 v0 rfl rfl) h0 hfit
  obtain ⟨m, a, c, rfl, him, hmf⟩ := openMr (hval 1 54 v1 rfl rfl) h1 hfit1
  clear hA0 hval0 hsz
  simp only [List.append_nil] at hW'
  have hlt : ∀ y ∈ p0, y.block < W.heap.size := fun y hy => by simpa using hW'.lt y (by simp [hy])
  have hlt1 : ∀ y ∈ p1, y.block < W.heap.size := fun y hy => by simpa using hW'.lt y (by simp [hy])
  refine (step_law x a1 a2 a3 c1 c2 c3 m a c n1 W hbf hmf hin him).mono fun e W' ⟨he, hb⟩ => ?_
  subst he
  refine ⟨_, rfl, _, _, _, [], p0 ++ p1, [], hW', ?_, ?_, rfl, hb.frame _, fun h => by cases h⟩
  · exact trodAll_mk1 (shut_bool Tryz.underlying4 true)
  · have h3 := trodAll_mk3 (Below.trod Tryz.laidOut (by kernel_rfl) (of_decide_eq_true (by kernel_rfl)) h0k hb hlt) (Below.trod Tryz.laidOut (by kernel_rfl) (of_decide_eq_true (by kernel_rfl)) h1k hb hlt1) (shut_int (enc := enc) (w := W') Tryz.underlying3 hn1)
    rw [List.append_nil] at h3
    exact h3
theorem step_holds : Rows.FnExactBookStepSaid :=
  OpenClaim.holds_of_wide 7 Tryz.f7 rfl rfl rfl rfl rfl rfl rfl ⟨rfl, rfl, rfl, rfl, rfl⟩ rfl rfl rfl rfl rfl (by kernel_rfl) Tryz.func7 (by kernel_rfl)
    (of_decide_eq_true (by kernel_rfl)) (by unfold Func.isWrapper; rw [if_neg (of_decide_eq_false (by kernel_rfl))]; exact ⟨rfl, rfl⟩)
    (fun os started H enc _ => step_lifted os started H enc)
end Go.Proofs.YtkecnaaacbckoaaGreat
