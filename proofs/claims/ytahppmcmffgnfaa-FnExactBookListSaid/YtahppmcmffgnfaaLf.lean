import Derived.Test.YtahppmcmffgnfaaLe
import Derived.Test.YtahppmcmffgnfaaGw
namespace Go.Proofs.Ytahppmcmffgnfaa
open Go.RowKit Go.Maps
theorem fit_of_sz {x : Bk} (h : szBk x ≤ 1048576) : (x.on : Int) ≤ 1048576 ∧ (∀ i, i < x.on → ((x.os i).hn : Int) ≤ 1048576) := by
  unfold szBk at h
  have h1 : szObs x.on x.os ≤ 1048576 := by omega
  unfold szObs at h1
  refine ⟨by omega, fun i hi => ?_⟩
  have h2 := sumTo_mono (fun i => szOb (x.os i)) (show i + 1 ≤ x.on by omega)
  simp only [sumTo, szOb, szStrs] at h2 h1
  omega
theorem mkObs_pick (x : Nat → Ob) (p : Nat → Bool) : ∀ n, mkObs 1 (pick x (flt p n)) (flt p n).length ≤ mkObs 1 x n
  | 0 => Nat.le_refl _
  | n + 1 => by
    have ih := mkObs_pick x p n
    cases hp : p n with
    | false => rw [flt_no hp]; exact Nat.le_trans ih (mkObs_mono 1 x (Nat.le_succ n))
    | true =>
      rw [flt_yes hp]
      have e : (flt p n ++ [n]).length = (flt p n).length + 1 := by simp
      rw [e]
      unfold mkObs
      rw [pick_new, mkObs_congr 1 (y := pick x (flt p n)) (fun i hi => pick_old hi)]
      omega
theorem res_len (x : Bk) (ki pr : ByteArray) : (resL x ki pr).length ≤ x.on := by
  unfold resL
  split
  · exact flt_len _ _
  · exact Nat.zero_le _
theorem res_hn {x : Bk} {ki pr : ByteArray} {i : Nat} (h : i < (resL x ki pr).length) : ∃ k, k < x.on ∧ pick x.os (resL x ki pr) i = x.os k := by
  unfold resL at h ⊢
  split
  · next hv => rw [if_pos hv] at h; exact pick_mem h
  · next hv => rw [if_neg hv] at h; exact absurd h (Nat.not_lt_zero _)
theorem res_mk (x : Bk) (ki pr : ByteArray) : mkObs 1 (pick x.os (resL x ki pr)) (resL x ki pr).length ≤ mkObs 1 x.os x.on := by
  unfold resL
  split
  · exact mkObs_pick _ _ _
  · exact mkObs_mono 1 x.os (Nat.zero_le _)
/-- where the law stands, from its first comparison on -/
structure LS (W : World) (s0 : Nat) (x : Bk) (a1 a2 a3 : Option Addr) (c1 c2 c3 : Nat) (n : Nat) (y : Nat → Ob) (z3 z4 : Nat) (adw : Option Addr) (gw : Nat) (Aw : Nat → Option Addr) (Cw hw : Nat → Nat) (p : Pl) (d1 d2 d3 : Nat) (adg : Option Addr) (gg : Nat) (Ag : Nat → Option Addr) (Cg hg : Nat → Nat) (xm : Bk) (yg : Nat → Ob) : Prop where
  bx : Holds W s0 (bkCells x a1 a2 a3 c1 c2 c3)
  arg : BkIn W 0 s0 x a1 a2 a3
  vw : ObsAt W adw gw n y Aw Cw hw
  bw : ∀ q, blkH gw n (fun i => (y i).hn) hw q → s0 < q ∧ q < z3
  vx : Holds W z4 (bkCells x p.a1 p.a2 p.a3 d1 d2 d3)
  xx : BkAt W xm p
  xb : ∀ q, blkB p xm q → z3 ≤ q ∧ q < z4
  vg : ObsAt W adg gg n yg Ag Cg hg
  bg : ∀ q, blkH gg n (fun i => (yg i).hn) hg q → z4 < q
  o1 : s0 < z3
  o2 : z3 ≤ z4
  o3 : z4 < W.heap.size
section
variable {W W' : World} {s0 : Nat} {x : Bk} {a1 a2 a3 : Option Addr} {c1 c2 c3 : Nat} {n : Nat} {y : Nat → Ob} {z3 z4 : Nat} {adw : Option Addr} {gw : Nat} {Aw : Nat → Option Addr} {Cw hw : Nat → Nat} {p : Pl} {d1 d2 d3 : Nat} {adg : Option Addr} {gg : Nat} {Ag : Nat → Option Addr} {Cg hg : Nat → Nat} {xm : Bk} {yg : Nat → Ob}
theorem LS.below (h : LS W s0 x a1 a2 a3 c1 c2 c3 n y z3 z4 adw gw Aw Cw hw p d1 d2 d3 adg gg Ag Cg hg xm yg) (hb : Below W.heap.size W W') : LS W' s0 x a1 a2 a3 c1 c2 c3 n y z3 z4 adw gw Aw Cw hw p d1 d2 d3 adg gg Ag Cg hg xm yg := by
  have h1 := h.o1
  have h2 := h.o2
  have h3 := h.o3
  exact ⟨h.bx.below hb (by omega), h.arg.below hb (by omega), h.vw.grow hb, h.bw, h.vx.below hb h3, h.xx.grow hb, h.xb, h.vg.grow hb, h.bg, h1, h2, Nat.lt_of_lt_of_le h3 hb.size⟩
theorem Holds.frP {W W' : World} {B : Nat} {c : Array Value} {P : Nat → Prop} (h : Holds W B c) (hf : FrP P W W') (hB : B < W.heap.size) (hp : ¬ P B) : Holds W' B c := fun i => (hf.cell (p := ⟨B, i, none⟩) hB hp).trans (h i)
theorem LS.markX (h : LS W s0 x a1 a2 a3 c1 c2 c3 n y z3 z4 adw gw Aw Cw hw p d1 d2 d3 adg gg Ag Cg hg xm yg) (k0 : Nat) (hx : BkAt W' (ykBk k0 xm) p) (hf : FrP (blkB p xm) W W') : LS W' s0 x a1 a2 a3 c1 c2 c3 n y z3 z4 adw gw Aw Cw hw p d1 d2 d3 adg gg Ag Cg hg (ykBk k0 xm) yg := by
  have h1 := h.o1
  have h2 := h.o2
  have h3 := h.o3
  refine ⟨h.bx.frP hf (by omega) (fun e => by have := h.xb _ e; omega), h.arg.below (hf.below (B := s0) (fun k hk e => by have := h.xb _ e; omega) (by omega)) (Nat.le_refl _), h.vw.fr hf (fun k hk e => by have a := h.bw k hk; have b := h.xb _ e; omega), h.bw, h.vx.frP hf h3 (fun e => by have := h.xb _ e; omega), hx, by rw [blkB_yk]; exact h.xb, h.vg.fr hf (fun k hk e => by have a := h.bg k hk; have b := h.xb _ e; omega), h.bg, h1, h2, Nat.lt_of_lt_of_le h3 hf.size⟩
theorem LS.markG (h : LS W s0 x a1 a2 a3 c1 c2 c3 n y z3 z4 adw gw Aw Cw hw p d1 d2 d3 adg gg Ag Cg hg xm yg) (k0 : Nat) (hg' : ObsAt W' adg gg n (ykOb k0 yg n) Ag Cg hg) (hf : FrP (blkH gg n (fun i => (yg i).hn) hg) W W') : LS W' s0 x a1 a2 a3 c1 c2 c3 n y z3 z4 adw gw Aw Cw hw p d1 d2 d3 adg gg Ag Cg hg xm (ykOb k0 yg n) := by
  have h1 := h.o1
  have h2 := h.o2
  have h3 := h.o3
  refine ⟨h.bx.frP hf (by omega) (fun e => by have := h.bg _ e; omega), h.arg.below (hf.below (B := s0) (fun k hk e => by have := h.bg _ e; omega) (by omega)) (Nat.le_refl _), h.vw.fr hf (fun k hk e => by have a := h.bw k hk; have b := h.bg _ e; omega), h.bw, h.vx.frP hf h3 (fun e => by have := h.bg _ e; omega), h.xx.fr hf (fun k hk e => by have a := h.xb k hk; have b := h.bg _ e; omega), h.xb, hg', by simp only [ykOb_hn]; exact h.bg, h1, h2, Nat.lt_of_lt_of_le h3 hf.size⟩
theorem LS.low (h : LS W s0 x a1 a2 a3 c1 c2 c3 n y z3 z4 adw gw Aw Cw hw p d1 d2 d3 adg gg Ag Cg hg xm yg) (hf : FrP (blkB p xm) W W') : Below s0 W W' := by
  have h1 := h.o1
  have h2 := h.o2
  have h3 := h.o3
  exact hf.below (B := s0) (fun k hk e => by have := h.xb _ e; omega) (by omega)
theorem LS.lowG (h : LS W s0 x a1 a2 a3 c1 c2 c3 n y z3 z4 adw gw Aw Cw hw p d1 d2 d3 adg gg Ag Cg hg xm yg) (hf : FrP (blkH gg n (fun i => (yg i).hn) hg) W W') : Below s0 W W' := by
  have h1 := h.o1
  have h2 := h.o2
  have h3 := h.o3
  exact hf.below (B := s0) (fun k hk e => by have := h.bg _ e; omega) (by omega)
end
theorem implList_y (B : Bk) (a1 a2 a3 : Option Addr) (c1 c2 c3 : Nat) (ki pr : ByteArray) (n : Nat) (y : Nat → Ob) (nw : Int) (hn : (resL B ki pr).length = n) (hy : pick B.os (resL B ki pr) = y) (hN : resN B = nw) (w : World) (lo hi : Nat) (hhi : hi ≤ w.heap.size) (hfit : BkFit B) (hon : (B.on : Int) ≤ 1048576) (hpr : (pr.size : Int) ≤ 140737488355328) (hin : BkIn w lo hi B a1 a2 a3) :
    Calls Try.prog 7 #[.agg #[.int .i64 B.now, .int .i64 B.floor, .slice a1 B.on c1, .slice a2 B.hn c2, .slice a3 B.tn c3], .string ki, .string pr] w fun e w' => ∃ ad' cap' g A C hb, e = .returned (.tuple #[.slice ad' n cap', .int .i64 nw]) ∧ ObsAt w' ad' g n y A C hb ∧ (∀ q, blkH g n (fun i => (y i).hn) hb q → w.heap.size ≤ q) ∧ Below w.heap.size w w' := by
  subst hn; subst hy; subst hN
  exact implList_any B a1 a2 a3 c1 c2 c3 ki pr w lo hi hhi hfit hon hpr hin
theorem specList_y (B : Bk) (a1 a2 a3 : Option Addr) (c1 c2 c3 : Nat) (ki pr : ByteArray) (n : Nat) (y : Nat → Ob) (nw : Int) (hn : (resL B ki pr).length = n) (hy : pick B.os (resL B ki pr) = y) (hN : resN B = nw) (w : World) (lo hi : Nat) (hhi : hi ≤ w.heap.size) (hfit : BkFit B) (hon : (B.on : Int) ≤ 1048576) (hpr : (pr.size : Int) ≤ 140737488355328) (hin : BkIn w lo hi B a1 a2 a3) :
    Calls Try.prog 5 #[.agg #[.int .i64 B.now, .int .i64 B.floor, .slice a1 B.on c1, .slice a2 B.hn c2, .slice a3 B.tn c3], .string ki, .string pr] w fun e w' => ∃ ad' cap' g A C hb, e = .returned (.tuple #[.slice ad' n cap', .int .i64 nw]) ∧ ObsAt w' ad' g n y A C hb ∧ (∀ q, blkH g n (fun i => (y i).hn) hb q → w.heap.size ≤ q) ∧ Below w.heap.size w w' := by
  subst hn; subst hy; subst hN
  exact specBookList_any B a1 a2 a3 c1 c2 c3 ki pr w lo hi hhi hfit hon hpr hin
end Go.Proofs.Ytahppmcmffgnfaa
