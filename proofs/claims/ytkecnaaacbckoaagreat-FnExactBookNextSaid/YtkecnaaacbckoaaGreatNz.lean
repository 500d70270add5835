import Derived.Test.YtkecnaaacbckoaaGreatGw
import Derived.Test.YtkecnaaacbckoaaGreatLb
import Derived.Test.YtkecnaaacbckoaaGreatNp
import Derived.Test.YtkecnaaacbckoaaGreatNm
import Derived.Test.YtkecnaaacbckoaaGreatX
import Derived.ProofKit
import Derived.SizedLaws
namespace Go.Proofs.YtkecnaaacbckoaaGreat
open Go.RowKit Go.Maps
theorem fit_of_sz {x : Bk} (h : szBk x ≤ 1048576) : (x.on : Int) ≤ 1048576 ∧ (∀ i, i < x.on → ((x.os i).hn : Int) ≤ 1048576) := by
  unfold szBk at h
  have h1 : szObs x.on x.os ≤ 1048576 := by omega
  unfold szObs at h1
  refine ⟨by omega, fun i hi => ?_⟩
  have h2 := sumTo_mono (fun i => szOb (x.os i)) (show i + 1 ≤ x.on by omega)
  simp only [sumTo, szOb, szStrs] at h2 h1
  omega
/-- where the law stands, from its first comparison on -/
structure LS (W : World) (s0 : Nat) (x : Bk) (a1 a2 a3 : Option Addr) (c1 c2 c3 : Nat) (n : Nat) (y : Nat → Ob) (z3 z4 : Nat) (adw : Option Addr) (gw : Nat) (Aw : Nat → Option Addr) (Cw hw : Nat → Nat) (p : Pl) (d1 d2 d3 : Nat) (adg : Option Addr) (gg : Nat) (Ag : Nat → Option Addr) (Cg hg : Nat → Nat) (xm : Bk) (yg : Nat → Ob) : Prop where
  bx : Holds W s0 (bkCells x a1 a2 a3 c1 c2 c3)
  arg : BkIn W 0 s0 x a1 a2 a3
  vw : ObsAt W adw gw n y Aw Cw hw
  bw : ∀ q, blkH gw n (fun i => (y i).hn) hw q → s0 < q ∧ q < z3
  vx : Holds W z4 (bkCells x p.a1 p.a2 p.a3 d1 d2 d3)
  xx : BkAt W xm p
  xb : ∀ q, blkB p xm q → z3 ≤ q ∧ q < z4
  vg : ObsAt W adg gg n yg Ag Cg hg
  bg : ∀ q, blkH gg n (fun i => (yg i).hn) hg q → z4 < q
  o1 : s0 < z3
  o2 : z3 ≤ z4
  o3 : z4 < W.heap.size
section
variable {W W' : World} {s0 : Nat} {x : Bk} {a1 a2 a3 : Option Addr} {c1 c2 c3 : Nat} {n : Nat} {y : Nat → Ob} {z3 z4 : Nat} {adw : Option Addr} {gw : Nat} {Aw : Nat → Option Addr} {Cw hw : Nat → Nat} {p : Pl} {d1 d2 d3 : Nat} {adg : Option Addr} {gg : Nat} {Ag : Nat → Option Addr} {Cg hg : Nat → Nat} {xm : Bk} {yg : Nat → Ob}
theorem LS.below (h : LS W s0 x a1 a2 a3 c1 c2 c3 n y z3 z4 adw gw Aw Cw hw p d1 d2 d3 adg gg Ag Cg hg xm yg) (hb : Below W.heap.size W W') : LS W' s0 x a1 a2 a3 c1 c2 c3 n y z3 z4 adw gw Aw Cw hw p d1 d2 d3 adg gg Ag Cg hg xm yg := by
  have h1 := h.o1
  have h2 := h.o2
  have h3 := h.o3
  exact ⟨h.bx.below hb (by omega), h.arg.below hb (by omega), h.vw.grow hb, h.bw, h.vx.below hb h3, h.xx.grow hb, h.xb, h.vg.grow hb, h.bg, h1, h2, Nat.lt_of_lt_of_le h3 hb.size⟩
theorem Holds.frP {W W' : World} {B : Nat} {c : Array Value} {P : Nat → Prop} (h : Holds W B c) (hf : FrP P W W') (hB : B < W.heap.size) (hp : ¬ P B) : Holds W' B c := fun i => (hf.cell (p := ⟨B, i, none⟩) hB hp).trans (h i)
theorem LS.markX (h : LS W s0 x a1 a2 a3 c1 c2 c3 n y z3 z4 adw gw Aw Cw hw p d1 d2 d3 adg gg Ag Cg hg xm yg) (k0 : Nat) (hx : BkAt W' (ykBk k0 xm) p) (hf : FrP (blkB p xm) W W') : LS W' s0 x a1 a2 a3 c1 c2 c3 n y z3 z4 adw gw Aw Cw hw p d1 d2 d3 adg gg Ag Cg hg (ykBk k0 xm) yg := by
  have h1 := h.o1
  have h2 := h.o2
  have h3 := h.o3
  refine ⟨h.bx.frP hf (by omega) (fun e => by have := h.xb _ e; omega), h.arg.below (hf.below (B := s0) (fun k hk e => by have := h.xb _ e; omega) (by omega)) (Nat.le_refl _), h.vw.fr hf (fun k hk e => by have a := h.bw k hk; have b := h.xb _ e; omega), h.bw, h.vx.frP hf h3 (fun e => by have := h.xb _ e; omega), hx, by rw [blkB_yk]; exact h.xb, h.vg.fr hf (fun k hk e => by have a := h.bg k hk; have b := h.xb _ e; omega), h.bg, h1, h2, Nat.lt_of_lt_of_le h3 hf.size⟩
theorem LS.markG (h : LS W s0 x a1 a2 a3 c1 c2 c3 n y z3 z4 adw gw Aw Cw hw p d1 d2 d3 adg gg Ag Cg hg xm yg) (k0 : Nat) (hg' : ObsAt W' adg gg n (ykOb k0 yg n) Ag Cg hg) (hf : FrP (blkH gg n (fun i => (yg i).hn) hg) W W') : LS W' s0 x a1 a2 a3 c1 c2 c3 n y z3 z4 adw gw Aw Cw hw p d1 d2 d3 adg gg Ag Cg hg xm (ykOb k0 yg n) := by
  have h1 := h.o1
  have h2 := h.o2
  have h3 := h.o3
  refine ⟨h.bx.frP hf (by omega) (fun e => by have := h.bg _ e; omega), h.arg.below (hf.below (B := s0) (fun k hk e => by have := h.bg _ e; omega) (by omega)) (Nat.le_refl _), h.vw.fr hf (fun k hk e => by have a := h.bw k hk; have b := h.bg _ e; omega), h.bw, h.vx.frP hf h3 (fun e => by have := h.bg _ e; omega), h.xx.fr hf (fun k hk e => by have a := h.xb k hk; have b := h.bg _ e; omega), h.xb, hg', by simp only [ykOb_hn]; exact h.bg, h1, h2, Nat.lt_of_lt_of_le h3 hf.size⟩
theorem LS.low (h : LS W s0 x a1 a2 a3 c1 c2 c3 n y z3 z4 adw gw Aw Cw hw p d1 d2 d3 adg gg Ag Cg hg xm yg) (hf : FrP (blkB p xm) W W') : Below s0 W W' := by
  have h1 := h.o1
  have h2 := h.o2
  have h3 := h.o3
  exact hf.below (B := s0) (fun k hk e => by have := h.xb _ e; omega) (by omega)
theorem LS.lowG (h : LS W s0 x a1 a2 a3 c1 c2 c3 n y z3 z4 adw gw Aw Cw hw p d1 d2 d3 adg gg Ag Cg hg xm yg) (hf : FrP (blkH gg n (fun i => (yg i).hn) hg) W W') : Below s0 W W' := by
  have h1 := h.o1
  have h2 := h.o2
  have h3 := h.o3
  exact hf.below (B := s0) (fun k hk e => by have := h.bg _ e; omega) (by omega)
end
end Go.Proofs.YtkecnaaacbckoaaGreat
namespace Go.Proofs.YtkecnaaacbckoaaGreat
open Go.RowKit Go.Maps
theorem holds_w {W : World} {B : Nat} {ki pr : ByteArray} {fr : Int} (h : Holds W B #[.string ki, .string pr, .int .i64 fr]) :
    W.cell? ⟨B, 0, none⟩ = some (.string ki) ∧ W.cell? ⟨B, 1, none⟩ = some (.string pr) ∧ W.cell? ⟨B, 2, none⟩ = some (.int .i64 fr) := ⟨h 0, h 1, h 2⟩
theorem holds_n {W : World} {B n c : Nat} {ad : Option Addr} {cd fv : Int} (h : Holds W B #[.int .i64 cd, .slice ad n c, .int .i64 fv]) :
    W.cell? ⟨B, 0, none⟩ = some (.int .i64 cd) ∧ W.cell? ⟨B, 1, none⟩ = some (.slice ad n c) ∧ W.cell? ⟨B, 2, none⟩ = some (.int .i64 fv) := ⟨h 0, h 1, h 2⟩
/-- where the law of BookNext stands, from its first comparison on -/
structure NS (W : World) (s0 z3 b8 b9 b10 : Nat) (x : Bk) (a1 a2 a3 : Option Addr) (c1 c2 c3 : Nat) (ki pr : ByteArray) (fr cd fv : Int) (n : Nat) (y : Nat → Ch) (adw : Option Addr) (cw gw : Nat) (Aw : Nat → Option Addr) (Cw hw : Nat → Nat) (p : Pl) (d1 d2 d3 : Nat) (xm : Bk) (adg : Option Addr) (cg gg : Nat) (Ag : Nat → Option Addr) (Cg hg : Nat → Nat) (yg : Nat → Ch) : Prop where
  bx : Holds W s0 (bkCells x a1 a2 a3 c1 c2 c3)
  bt : Holds W (s0 + 1) #[.string ki, .string pr, .int .i64 fr]
  arg : BkIn W 0 s0 x a1 a2 a3
  v8 : Holds W b8 #[.int .i64 cd, .slice adw n cw, .int .i64 fv]
  vw : ChsAt W adw gw n y Aw Cw hw
  bw : ∀ q, blkH gw n (fun i => (y i).ob.hn) hw q → s0 + 1 < q ∧ q < z3
  v9 : Holds W b9 (bkCells x p.a1 p.a2 p.a3 d1 d2 d3)
  xx : BkAt W xm p
  xb : ∀ q, blkB p xm q → z3 ≤ q ∧ q < b9
  v10 : Holds W b10 #[.int .i64 cd, .slice adg n cg, .int .i64 fv]
  vg : ChsAt W adg gg n yg Ag Cg hg
  bg : ∀ q, blkH gg n (fun i => (yg i).ob.hn) hg q → b9 < q ∧ ¬ q = b10
  o1 : s0 + 1 < b8 ∧ b8 < z3
  o2 : z3 ≤ b9 ∧ b9 < b10 ∧ b10 < W.heap.size
section
variable {W W' : World} {s0 z3 b8 b9 b10 : Nat} {x : Bk} {a1 a2 a3 : Option Addr} {c1 c2 c3 : Nat} {ki pr : ByteArray} {fr cd fv : Int} {n : Nat} {y : Nat → Ch} {adw : Option Addr} {cw gw : Nat} {Aw : Nat → Option Addr} {Cw hw : Nat → Nat} {p : Pl} {d1 d2 d3 : Nat} {xm : Bk} {adg : Option Addr} {cg gg : Nat} {Ag : Nat → Option Addr} {Cg hg : Nat → Nat} {yg : Nat → Ch}
theorem NS.below (h : NS W s0 z3 b8 b9 b10 x a1 a2 a3 c1 c2 c3 ki pr fr cd fv n y adw cw gw Aw Cw hw p d1 d2 d3 xm adg cg gg Ag Cg hg yg) (hb : Below W.heap.size W W') : NS W' s0 z3 b8 b9 b10 x a1 a2 a3 c1 c2 c3 ki pr fr cd fv n y adw cw gw Aw Cw hw p d1 d2 d3 xm adg cg gg Ag Cg hg yg := by
  have h1 := h.o1
  have h2 := h.o2
  exact ⟨h.bx.below hb (by omega), h.bt.below hb (by omega), h.arg.below hb (by omega), h.v8.below hb (by omega), h.vw.grow hb, h.bw, h.v9.below hb (by omega), h.xx.grow hb, h.xb, h.v10.below hb (by omega), h.vg.grow hb, h.bg, h1, h2.1, h2.2.1, Nat.lt_of_lt_of_le h2.2.2 hb.size⟩
theorem NS.markX (h : NS W s0 z3 b8 b9 b10 x a1 a2 a3 c1 c2 c3 ki pr fr cd fv n y adw cw gw Aw Cw hw p d1 d2 d3 xm adg cg gg Ag Cg hg yg) (k0 : Nat) (hx : BkAt W' (ykBk k0 xm) p) (hf : FrP (blkB p xm) W W') : NS W' s0 z3 b8 b9 b10 x a1 a2 a3 c1 c2 c3 ki pr fr cd fv n y adw cw gw Aw Cw hw p d1 d2 d3 (ykBk k0 xm) adg cg gg Ag Cg hg yg := by
  have h1 := h.o1
  have h2 := h.o2
  have hn : ∀ q, q < z3 ∨ b9 ≤ q → ¬ blkB p xm q := fun q hq e => by have := h.xb _ e; omega
  exact ⟨h.bx.frP hf (by omega) (hn _ (by omega)), h.bt.frP hf (by omega) (hn _ (by omega)), h.arg.below (hf.below (B := s0) (fun k hk => hn k (by omega)) (by omega)) (Nat.le_refl _), h.v8.frP hf (by omega) (hn _ (by omega)), h.vw.fr hf (fun k hk => hn k (by have := h.bw k hk; omega)), h.bw, h.v9.frP hf (by omega) (hn _ (by omega)), hx, by rw [blkB_yk]; exact h.xb, h.v10.frP hf (by omega) (hn _ (by omega)), h.vg.fr hf (fun k hk => hn k (by have := h.bg k hk; omega)), h.bg, h1, h2.1, h2.2.1, Nat.lt_of_lt_of_le h2.2.2 hf.size⟩
theorem NS.markG (h : NS W s0 z3 b8 b9 b10 x a1 a2 a3 c1 c2 c3 ki pr fr cd fv n y adw cw gw Aw Cw hw p d1 d2 d3 xm adg cg gg Ag Cg hg yg) (k0 : Nat) (hx : ChsAt W' adg gg n (ykCh k0 yg n) Ag Cg hg) (hf : FrP (blkH gg n (fun i => (yg i).ob.hn) hg) W W') : NS W' s0 z3 b8 b9 b10 x a1 a2 a3 c1 c2 c3 ki pr fr cd fv n y adw cw gw Aw Cw hw p d1 d2 d3 xm adg cg gg Ag Cg hg (ykCh k0 yg n) := by
  have h1 := h.o1
  have h2 := h.o2
  have hn : ∀ q, q ≤ b9 ∨ q = b10 → ¬ blkH gg n (fun i => (yg i).ob.hn) hg q := fun q hq e => by have := h.bg _ e; omega
  exact ⟨h.bx.frP hf (by omega) (hn _ (by omega)), h.bt.frP hf (by omega) (hn _ (by omega)), h.arg.below (hf.below (B := s0) (fun k hk => hn k (by omega)) (by omega)) (Nat.le_refl _), h.v8.frP hf (by omega) (hn _ (by omega)), h.vw.fr hf (fun k hk => hn k (by have := h.bw k hk; omega)), h.bw, h.v9.frP hf (by omega) (hn _ (by omega)), h.xx.fr hf (fun k hk => hn k (by have := h.xb k hk; omega)), h.xb, h.v10.frP hf (by omega) (hn _ (by omega)), hx, by simp only [ykCh_hn]; exact h.bg, h1, h2.1, h2.2.1, Nat.lt_of_lt_of_le h2.2.2 hf.size⟩
theorem NS.lowX (h : NS W s0 z3 b8 b9 b10 x a1 a2 a3 c1 c2 c3 ki pr fr cd fv n y adw cw gw Aw Cw hw p d1 d2 d3 xm adg cg gg Ag Cg hg yg) (hf : FrP (blkB p xm) W W') : Below s0 W W' := by
  have h1 := h.o1
  have h2 := h.o2
  exact hf.below (B := s0) (fun k hk e => by have := h.xb _ e; omega) (by omega)
theorem NS.lowG (h : NS W s0 z3 b8 b9 b10 x a1 a2 a3 c1 c2 c3 ki pr fr cd fv n y adw cw gw Aw Cw hw p d1 d2 d3 xm adg cg gg Ag Cg hg yg) (hf : FrP (blkH gg n (fun i => (yg i).ob.hn) hg) W W') : Below s0 W W' := by
  have h1 := h.o1
  have h2 := h.o2
  exact hf.below (B := s0) (fun k hk e => by have := h.bg _ e; omega) (by omega)
end
theorem fit_of_szH {x : Bk} (h : szBk x ≤ 1048576) : ∀ i, i < x.hn → (x.hs i).ob.hn ≤ 1048576 := fun i hi => by
  unfold szBk at h
  have h1 : szChs x.hn x.hs ≤ 1048576 := by omega
  unfold szChs at h1
  have h2 := sumTo_mono (fun i => szCh (x.hs i)) (show i + 1 ≤ x.hn by omega)
  simp only [sumTo, szCh, szOb, szStrs] at h2 h1
  omega
theorem nwN_200 (x : Bk) (ki pr : ByteArray) (fr most : Int) : nwN x ki pr fr most ≤ 200 := by
  by_cases hK : nwC x fr most = 0
  · obtain ⟨hv, _⟩ := nwC_zero hK
    obtain ⟨_, _, _, v3, _⟩ := valid_hist hv
    have := nwN_le x ki pr fr most
    omega
  · rw [nwN, if_neg hK]
    exact Nat.zero_le _
set_option maxRecDepth 100000 in
set_option maxHeartbeats 4000000 in
theorem next_law (x : Bk) (a1 a2 a3 : Option Addr) (c1 c2 c3 : Nat) (ki pr : ByteArray) (fr most : Int) (w : World) (hf0 : BkFit0 x) (hk0 : (ki.size : Int) ≤ 140737488355328) (hp0 : (pr.size : Int) ≤ 140737488355328) (hc : BkIn w 0 w.heap.size x a1 a2 a3) :
    Calls Tryz.prog 5 #[.agg #[.int .i64 x.now, .int .i64 x.floor, .slice a1 x.on c1, .slice a2 x.hn c2, .slice a3 x.tn c3], .agg #[.string ki, .string pr, .int .i64 fr], .int .i64 most] w fun e w' => e = .returned (.bool true) ∧ Below w.heap.size w w' := by
  have hb0 : ∀ o1 o2, Below w.heap.size w ((w.alloc o1).alloc o2) := fun o1 o2 => (below_alloc _ _).alloc (by simp) _
  have HC := hid hc
  clear hc
  go_enter Tryz.func5, Tryz.ntmps5
  go_wp2_with fail
  refine (szBk_any x a1 a2 a3 c1 c2 c3 1048576 _ (by omega) (by omega) 0 w.heap.size (by simp; omega) hf0 (HC.out.below (hb0 _ _) (Nat.le_refl _))).mono ?_
  rintro e w1 ⟨rfl, hb1⟩
  have hB1 : Below w.heap.size w w1 := (hb0 _ _).trans (hb1.mono (by simp; omega))
  have hz1 : w.heap.size + 1 < w1.heap.size := by have := hb1.size; simp at this; omega
  obtain ⟨A0, A1, _, _⟩ := two_cell hb1
  have H1 : Holds w1 w.heap.size (bkCells x a1 a2 a3 c1 c2 c3) := A0
  have M1 : Holds w1 (w.heap.size + 1) #[.string ki, .string pr, .int .i64 fr] := A1
  clear A0 A1 hb1
  generalize hl1 : szOut 1048576 (szBk x) = l1
  by_cases hsz : l1 < 0
  · clear H1 M1
    go_wp2
    go_ret
    exact ⟨rfl, hB1⟩
  obtain ⟨hs0, hs0'⟩ := szOut_ge (l := 1048576) (s := szBk x) (by omega)
  have hl1' : l1 ≤ 1048576 := by omega
  obtain ⟨q0, q1, q2⟩ := holds_w M1
  have HH := hid H1
  have HMM := hid M1
  clear H1 M1
  go_wp2_with fail
  refine (szW_any ki pr fr _ w1 (by omega) (by omega) hk0 hp0).mono ?_
  rintro e w2 ⟨rfl, hb2⟩
  have hB2 : Below w.heap.size w w2 := hB1.trans (hb2.mono (by omega))
  have hz2 := hb2.size
  have H2 := HH.out.below hb2 (by omega)
  have M2 := HMM.out.below hb2 (by omega)
  clear hb2 q0 q1 q2 HH HMM
  generalize hl2 : szOut l1 (ki.size + pr.size) = l2
  by_cases hsz2 : l2 < 0
  · clear H2 M2
    go_wp2
    go_ret
    exact ⟨rfl, hB2⟩
  have hs1 : szBk x ≤ 1048576 := by omega
  have hf : BkFit x := by
    have h := hs1
    unfold szBk szObs szChs szTis at h
    exact ⟨by omega, by omega, by omega, hf0.os, hf0.hs, hf0.ts⟩
  have hon := (fit_of_sz hs1).1
  have hlim : (x.hn : Int) ≤ 1048576 ∧ (x.tn : Int) ≤ 1048576 := by
    have h := hs1
    unfold szBk szObs szChs szTis at h
    omega
  have H2h := hid H2
  have M2h := hid M2
  have HF := hid hf
  clear hf0 H2 M2 hl1 hl2 hs0 hs0' hb0 hf
  have za : w.heap.size < w2.heap.size := by omega
  have zb : w.heap.size + 1 < w2.heap.size := by omega
  go_wp2_with fail
  refine nxReg8 _ _ _ _ _ _ _ _ _ _ _ _ _ _ _ _ _ _ _ _ _ _ _ _ _ _ _ _ _ _ _ _ _ _ _ _ _ _ _ _ _ _ _ _ _ _ _ _ _ _ _ _ _ _ _ _ _ _ _ _ _ _ _ _ _ _ _ _ _ _ _ _ _ _ _ _ _ w.heap.size x a1 a2 a3 c1 c2 c3 ki pr fr most HF.out hp0 w2 H2h.out M2h.out (HC.out.below hB2 (Nat.le_refl _)) zb _ ?_
  rintro u0 u1 u2 u3 u4 u5 u6 w3 ⟨b8, adw, cw, gw, Aw, Cw, hw, rfl, z8, z8', h83, hc3, hq3⟩ hb3
  have hB3 : Below w.heap.size w w3 := hB2.trans (hb3.mono (by omega))
  have hz3 := hb3.size
  have H3 := hid (H2h.out.below hb3 za)
  have M3 := hid (M2h.out.below hb3 zb)
  have HO3 := hid hc3
  have HQ3 := hid (show ∀ q, blkH gw (nwN x ki pr fr most) (fun i => (nwY x ki pr fr most i).ob.hn) hw q → w.heap.size + 1 < q ∧ q < w3.heap.size from fun q hq => ⟨by have := (hq3 q hq).1; omega, hc3.blt hq⟩)
  have H83 := hid h83
  obtain ⟨cd, hcd⟩ : ∃ cd, nwC x fr most = cd := ⟨_, rfl⟩
  obtain ⟨fv, hfv⟩ : ∃ fv, nwV x ki pr fr most = fv := ⟨_, rfl⟩
  obtain ⟨n, hn⟩ : ∃ n, nwN x ki pr fr most = n := ⟨_, rfl⟩
  obtain ⟨y, hy⟩ : ∃ y, nwY x ki pr fr most = y := ⟨_, rfl⟩
  have hn200 := nwN_200 x ki pr fr most
  have hyh : ∀ i, i < nwN x ki pr fr most → (nwY x ki pr fr most i).ob.hn ≤ 1048576 := fun i hi => by
    obtain ⟨j, hj, e⟩ := nwY_mem hi
    rw [e]
    exact fit_of_szH hs1 j hj
  have hmk0 := mkChs_leM (k0 := 1) (M := 1048576) (y := nwY x ki pr fr most) (nwN x ki pr fr most) hyh
  rw [hn] at hn200 hyh hmk0
  rw [hy] at hyh hmk0
  have HCD := hid hcd
  have HFV := hid hfv
  have HNN := hid hn
  have HYY := hid hy
  have HYH := hid (show ∀ i, i < n → ((y i).ob.hn : Int) ≤ 140737488355328 from fun i hi => by have := hyh i hi; omega)
  have hmk : (mkChs 1 y n : Int) ≤ 1073741824 := by
    have h2 : n * (8 + 1048576) ≤ 200 * (8 + 1048576) := Nat.mul_le_mul_right _ hn200
    omega
  have hmb : (mkBk 1 x : Int) ≤ 1073741824 := by have := mkBk_le 1 x; omega
  have hnl : (n : Int) ≤ 1048576 := by omega
  clear hc3 hq3 h83 hb3 H2h M2h hcd hfv hn hy hyh hmk0
  obtain ⟨p0, p1, p2, p3, p4⟩ := holds_bk H3.out
  go_wp2_with fail
  refine (toBk_any x a1 a2 a3 c1 c2 c3 w3 0 w.heap.size (by omega) HF.out (HC.out.below hB3 (Nat.le_refl _))).mono ?_
  rintro e w4 ⟨g1, g2, g3, d1, d2, d3, rfl, hx4, hb4⟩
  obtain ⟨p, hp1, hp2, hp3, hp4, hp5⟩ := hx4.at
  rw [← hp1, ← hp2, ← hp3]
  have hz4 := hb4.size
  have hb4' : Below w3.heap.size w3 (w4.alloc (.cells (bkCells x p.a1 p.a2 p.a3 d1 d2 d3) 32)) := hb4.alloc hb4.size _
  have hB4 : Below w.heap.size w (w4.alloc (.cells (bkCells x p.a1 p.a2 p.a3 d1 d2 d3) 32)) := hB3.trans (hb4'.mono (by omega))
  have M4 := hid (M3.out.below hb4' (by omega))
  have H4 := hid (H3.out.below hb4' (by omega))
  have HO4 := hid (HO3.out.grow hb4')
  have H84 := hid (H83.out.below hb4' (by omega))
  have XX := hid (hp4.grow (below_alloc w4 (.cells (bkCells x p.a1 p.a2 p.a3 d1 d2 d3) 32)))
  have XB := hid hp5
  have V9 := hid (holds_new w4 (bkCells x p.a1 p.a2 p.a3 d1 d2 d3) 32)
  have z41 : (w4.alloc (.cells (bkCells x p.a1 p.a2 p.a3 d1 d2 d3) 32)).heap.size = w4.heap.size + 1 := by simp
  clear p0 p1 p2 p3 p4 hb4 H3 M3 HO3 H83 hx4 hp1 hp2 hp3 hp4 hp5 hb4'
  go_wp2_with fail
  refine nxReg10 _ _ _ _ _ _ _ _ _ _ _ _ _ _ _ _ _ _ _ _ _ _ _ _ _ _ _ _ _ _ _ _ _ _ _ _ _ _ _ _ _ _ _ _ _ _ _ _ _ _ _ _ _ _ _ _ _ _ _ _ _ _ _ _ _ _ _ _ _ _ _ _ _ _ _ _ _ w.heap.size w4.heap.size x p d1 d2 d3 ki pr fr most HF.out hp0 _ V9.out (by simp) M4.out XX.out (by rw [z41]; omega) _ ?_
  rintro v0 v1 v2 v3 v4 v5 w6 ⟨b10, adg, cg, gg, Ag, Cg, hg, rfl, z10, z10', h106, hg6, hq6⟩ hb6
  have hB6 : Below w.heap.size w w6 := hB4.trans (hb6.mono (by rw [z41]; omega))
  have hz6 := hb6.size
  rw [z41] at z10 hz6
  rw [HCD.out, HFV.out, HNN.out] at h106
  rw [HNN.out, HYY.out] at hg6
  have H84' := H84.out
  rw [HCD.out, HFV.out, HNN.out] at H84'
  have HO4' := HO4.out
  rw [HNN.out, HYY.out] at HO4'
  have HQ3' := HQ3.out
  rw [HNN.out, HYY.out] at HQ3'
  rw [HNN.out, HYY.out] at hq6
  have S6 : NS w6 w.heap.size w3.heap.size b8 w4.heap.size b10 x a1 a2 a3 c1 c2 c3 ki pr fr cd fv n y adw cw gw Aw Cw hw p d1 d2 d3 x adg cg gg Ag Cg hg y :=
    ⟨H4.out.below hb6 (by rw [z41]; omega), M4.out.below hb6 (by rw [z41]; omega), HC.out.below hB6 (Nat.le_refl _), H84'.below hb6 (by rw [z41]; omega), HO4'.grow hb6, HQ3', V9.out.below hb6 (by rw [z41]; omega), XX.out.grow hb6, fun q hq => XB.out q hq, h106, hg6, fun q hq => ⟨by have := (hq6 q hq).1; rw [z41] at this; omega, (hq6 q hq).2⟩, ⟨by omega, by omega⟩, by omega, by omega, z10'⟩
  have HS6 := hid S6
  clear z41 H4 M4 HO4 H84 XX XB V9 HO4' H84' HQ3' HQ3 h106 hg6 hq6 hb6 S6
  obtain ⟨p0, p1, p2⟩ := holds_n HS6.out.v10
  obtain ⟨q0, q1, q2⟩ := holds_n HS6.out.v8
  have zo := HS6.out.o1
  have zo2 := HS6.out.o2
  go_wp2_with fail
  refine (eqNw_any cd fv n y adg adw cg cw w6 0 w6.heap.size 0 w6.heap.size (Nat.le_refl _) (Nat.le_refl _) (by omega) HYH.out (by exact HS6.out.vg.isIn (fun _ _ => Nat.zero_le _)) (by exact HS6.out.vw.isIn (fun _ _ => Nat.zero_le _))).mono ?_
  rintro e w7 ⟨rfl, hb7⟩
  have HS7 := hid (HS6.out.below hb7)
  have hB7 : Below w.heap.size w w7 := hB6.trans (hb7.mono hB6.size)
  clear p0 p1 p2 q0 q1 q2 hb7 HS6 hB6
  go_wp2
  refine nxReg13 _ _ _ _ _ _ _ _ _ _ _ _ _ _ _ _ _ _ _ _ _ _ _ _ _ _ _ _ _ _ _ _ _ _ _ _ _ _ _ _ _ _ _ _ _ _ _ _ _ _ _ _ _ _ _ _ _ _ _ _ _ _ _ _ _ _ _ _ _ _ _ _ _ _ _ _ _ _ _ _ w.heap.size w4.heap.size x a1 a2 a3 c1 c2 c3 p d1 d2 d3 HF.out w7 HS7.out.v9 HS7.out.bx HS7.out.xx HS7.out.arg (by have := HS7.out.o2; omega) (by have := HS7.out.o2; omega) _ ?_
  intro t0 t1 t2 t3 w8 hb8
  have HS8 := hid (HS7.out.below hb8)
  have hB8 : Below w.heap.size w w8 := hB7.trans (hb8.mono hB7.size)
  clear hb8 HS7 hB7
  obtain ⟨q0, q1, q2, q3, q4⟩ := holds_bk HS8.out.v9
  go_wp2_with fail
  refine (markBk_own x p d1 d2 d3 1 w8 hon hlim.1 hlim.2 (by decide) hmb HS8.out.xx).mono ?_
  rintro e w10 ⟨rfl, hx10, hf10⟩
  have HS10 := hid (HS8.out.markX 1 hx10 hf10)
  have hB10 : Below w.heap.size w w10 := hB8.trans (HS8.out.lowX hf10)
  obtain ⟨k9, hk9⟩ : ∃ k9, mkBk 1 x = k9 := ⟨_, rfl⟩
  rw [hk9]
  have hk9p : 0 ≤ (k9 : Int) := by omega
  clear q0 q1 q2 q3 q4 HS8 hB8 hx10 hf10 hk9
  obtain ⟨p0, p1, p2⟩ := holds_n HS10.out.v10
  obtain ⟨q0, q1, q2⟩ := holds_n HS10.out.v8
  go_wp2_with fail
  refine (eqNw_any cd fv n y adg adw cg cw w10 0 w10.heap.size 0 w10.heap.size (Nat.le_refl _) (Nat.le_refl _) (by omega) HYH.out (by exact HS10.out.vg.isIn (fun _ _ => Nat.zero_le _)) (by exact HS10.out.vw.isIn (fun _ _ => Nat.zero_le _))).mono ?_
  rintro e w12 ⟨rfl, hb12⟩
  have HS12 := hid (HS10.out.below hb12)
  have hB12 : Below w.heap.size w w12 := hB10.trans (hb12.mono hB10.size)
  clear p0 p1 p2 q0 q1 q2 HS10 hB10 hb12
  obtain ⟨q0, q1, q2⟩ := holds_n HS12.out.v10
  go_wp2_with fail
  refine (markNw_own cd fv n y adg gg Ag Cg hg cg 1 w12 hnl (by decide) hmk HS12.out.vg).mono ?_
  rintro e w13 ⟨rfl, hx13, hf13⟩
  have HS13 := hid (HS12.out.markG 1 hx13 hf13)
  have hB13 : Below w.heap.size w w13 := hB12.trans (HS12.out.lowG hf13)
  obtain ⟨m9, hm9⟩ : ∃ m9, mkChs 1 y n = m9 := ⟨_, rfl⟩
  have HM9 := hid hm9
  have hm9p : 0 ≤ (m9 : Int) := by omega
  rw [hm9]
  clear q0 q1 q2 HS12 hB12 hx13 hf13 hm9
  obtain ⟨q0, q1, q2⟩ := holds_n HS13.out.v10
  go_wp2_with fail
  refine (heldNw_own cd fv n y adg gg Ag Cg hg cg 1 w13 hnl (by decide) hmk HS13.out.vg).mono ?_
  rw [HM9.out]
  rintro e w14 ⟨rfl, hb14⟩
  have HS14 := hid (HS13.out.below hb14)
  have hB14 : Below w.heap.size w w14 := hB13.trans (hb14.mono hB13.size)
  clear q0 q1 q2 HS13 hB13 hb14
  go_wp2_with fail
  refine nxReg27 _ _ _ _ _ _ _ _ _ _ _ _ _ _ _ _ _ _ _ _ _ _ _ _ _ _ _ _ _ _ _ _ _ _ _ _ _ _ _ _ _ _ _ _ _ _ _ _ _ _ _ _ _ _ _ _ _ _ _ _ _ _ _ _ _ _ _ _ _ _ _ _ _ _ _ _ _ w.heap.size x a1 a2 a3 c1 c2 c3 ki pr fr most HF.out hp0 w14 HS14.out.bx HS14.out.bt HS14.out.arg (by have := HS14.out.o2; omega) _ ?_
  rintro r0 r1 r2 r3 r4 r5 r6 w15 ⟨b14, adh, ch, gh, Ah, Ch', hh, rfl, z14, z14', h15, ho15, hq15⟩ hb15
  have HS15 := hid (HS14.out.below hb15)
  have hB15 : Below w.heap.size w w15 := hB14.trans (hb15.mono hB14.size)
  rw [HCD.out, HFV.out, HNN.out] at h15
  rw [HNN.out, HYY.out] at ho15
  obtain ⟨p0, p1, p2⟩ := holds_n h15
  obtain ⟨q0, q1, q2⟩ := holds_n HS15.out.v8
  have HH := hid ho15
  clear HS14 hB14 hb15 ho15 hq15 h15
  go_wp2_with fail
  refine (eqNw_any cd fv n y adh adw ch cw w15 0 w15.heap.size 0 w15.heap.size (Nat.le_refl _) (Nat.le_refl _) (by omega) HYH.out (by exact HH.out.isIn (fun _ _ => Nat.zero_le _)) (by exact HS15.out.vw.isIn (fun _ _ => Nat.zero_le _))).mono ?_
  rintro e w16 ⟨rfl, hb16⟩
  have HS16 := hid (HS15.out.below hb16)
  have hB16 : Below w.heap.size w w16 := hB15.trans (hb16.mono hB15.size)
  clear p0 p1 p2 q0 q1 q2 HS15 hB15 hb16 HH
  obtain ⟨q0, q1, q2⟩ := holds_n HS16.out.v10
  go_wp2_with fail
  refine (heldNw_own cd fv n y adg gg Ag Cg hg cg 1 w16 hnl (by decide) hmk HS16.out.vg).mono ?_
  rw [HM9.out]
  rintro e w17 ⟨rfl, hb17⟩
  have hB17 : Below w.heap.size w w17 := hB16.trans (hb17.mono hB16.size)
  clear q0 q1 q2 HS16 hB16 hb17
  go_wp2
  go_ret
  exact ⟨rfl, hB17⟩
end Go.Proofs.YtkecnaaacbckoaaGreat
namespace Go.Proofs.YtkecnaaacbckoaaGreat
open Go.ChangeShapes Go.WideShapes Go.ChangeAt Go.RowKit Go.Deep
open Go.WideMaps Go.WideElems
theorem Tryz.own : ownKnob Tryz.prog.godebug = none := by kernel_rfl
theorem Tryz.c43 : Tryz.prog.cellsOf 43 = 3 := by kernel_rfl
set_option maxRecDepth 100000 in
/-- a watch that came in by value -/
theorem openWt {H : Type} {enc : TypeId × Value → H} {W : World} {b0 : Nat} {v : Value} {d : DataW H} {p : List MemPlace} (hv : Value.okWide Tryz.prog W .any b0 43 v) (h : DataW.Trod enc Tryz.prog W 0 (fun _ => true) true 43 v d p) (hs : Fits 43 d) :
    ∃ (ki pr : ByteArray) (fr : Int), v = .agg #[.string ki, .string pr, .int .i64 fr] ∧ (ki.size : Int) ≤ 140737488355328 ∧ (pr.size : Int) ≤ 140737488355328 := by
  obtain ⟨cs, rfl, hsz⟩ := okWide_struct Tryz.underlying43 hv
  obtain ⟨fuel, hf0⟩ := h
  obtain ⟨xs, n, _, hx, hlen, hxl, hf⟩ := DataW.trod_struct Tryz.underlying43 hf0
  simp only [Prod.mk.injEq] at hx
  obtain ⟨rfl, rfl⟩ := hx
  rw [Tryz.c43] at hsz
  obtain ⟨e0, e1, e2, he⟩ := list3 (show cs.toList.length = 3 by simpa using hsz)
  obtain rfl : cs = #[e0, e1, e2] := by
    apply Array.ext'
    simpa using he
  obtain ⟨y0, y1, y2, rfl⟩ := list3 (show xs.length = 3 from hxl)
  have g0 := hf 0 _ rfl
  have g1 := hf 1 _ rfl
  have g2 := hf 2 _ rfl
  simp only [List.getElem?_cons_succ, List.getElem?_cons_zero] at g0 g1 g2
  have hs' : ∀ z, z ∈ DataW.weights Tryz.prog 9 y0.1 ∨ z ∈ DataW.weights Tryz.prog 9 y1.1 → z ≤ reachBytes := fun z hz => hs z (by
    simp only [List.map_cons, List.map_nil, DataW.weights, Tryz.underlying43, DataW.weightsEach, List.mem_append]
    rcases hz with hz | hz <;> simp [hz])
  obtain ⟨k, rfl, fk⟩ := fit_str g0 (fun z hz => hs' z (Or.inl hz))
  obtain ⟨pr, rfl, fp⟩ := fit_str g1 (fun z hz => hs' z (Or.inr hz))
  obtain ⟨at', rfl⟩ := fit_int g2
  exact ⟨k, pr, at', rfl, fk, fp⟩
set_option maxRecDepth 100000 in
theorem next_lifted (os : Os) (started : os.Started) (H : Type) (enc : TypeId × Value → H) :
    ReturnsInHanded {} Tryz.checked os 5 .any (Rows.fnExactBookNextSpec.pre6 enc Tryz.prog Tryz.f5 Rows.fnExactBookNextRow.domain false) (Rows.fnExactBookNextSpec.post enc Tryz.prog Tryz.f5 false true false false) := by
  refine returnsInHanded_of_change_sized (C := Tryz.checked) Tryz.own started (by kernel_rfl) Tryz.func5
    (ChangeSpec.witness6 (enc := enc) (C := Tryz.checked) false ⟨#[], #[.agg #[.int .i64 0, .int .i64 0, .slice none 0 0, .slice none 0 0, .slice none 0 0], .agg #[.string ⟨#[]⟩, .string ⟨#[]⟩, .int .i64 0], .int .i64 0], []⟩ 8 (by kernel_rfl) (by kernel_rfl) (by kernel_rfl) (by kernel_rfl)) ?_
  intro W base args ds gs before hval0 hW _ hsz0 _
  have hsz : (DataW.weightsEach Tryz.prog (Tryz.f5.params.toList ++ Rows.fnExactBookNextSpec.plain.varTypes Tryz.prog) (ds ++ gs)).all (· ≤ reachBytes) = true := hsz0
  clear hsz0
  have hval : ∀ (j : Nat) t v, Tryz.f5.params[j]? = some t → args[j]? = some v → Value.okWide Tryz.prog W .any base t v := hval0
  have hW' := hW
  obtain ⟨p, q, hA0, hV, rfl, _, _⟩ := hW
  have hA : DataW.TrodAll enc Tryz.prog W 0 (fun _ => true) true Tryz.f5.params.toList args.toList ds p := hA0
  rw [Tryz.params5] at hA hval hsz
  obtain ⟨v0, v1, v2, d0, d1, d2, p0, p1, p2, rfl, rfl, rfl, h0, h1, h2⟩ := trodAll_three hA
  obtain ⟨rfl, rfl⟩ := trodVars_none hV
  have hfit : Fits 26 d0 := fun x hx => by
    have := List.all_eq_true.1 hsz x (DataW.weights_mem_each (j := 0) (t := 26) rfl rfl x hx)
    simpa using this
  have hfit1 : Fits 43 d1 := fun x hx => by
    have := List.all_eq_true.1 hsz x (DataW.weights_mem_each (j := 1) (t := 43) rfl rfl x hx)
    simpa using this
  obtain ⟨n1, rfl, rfl, rfl, hn1⟩ := open_int Tryz.underlying3 (hval 2 3 v2 rfl rfl) h2
  have h0k := h0
  have h1k := h1
  obtain ⟨x, a1, a2, a3, c1, c2, c3, rfl, hin, hbf⟩ := openBk (hval 0 26 v0 rfl rfl) h0 hfit
  obtain ⟨ki, pr, fr, rfl, hk, hp⟩ := openWt (hval 1 43 v1 rfl rfl) h1 hfit1
  clear hA0 hval0 hsz
  simp only [List.append_nil] at hW'
  have hlt : ∀ y ∈ p0, y.block < W.heap.size := fun y hy => by simpa using hW'.lt y (by simp [hy])
  have hlt1 : ∀ y ∈ p1, y.block < W.heap.size := fun y hy => by simpa using hW'.lt y (by simp [hy])
  refine (next_law x a1 a2 a3 c1 c2 c3 ki pr fr n1 W hbf hk hp hin).mono fun e W' ⟨he, hb⟩ => ?_
  subst he
  refine ⟨_, rfl, _, _, _, [], p0 ++ p1, [], hW', ?_, ?_, rfl, hb.frame _, fun h => by cases h⟩
  · exact trodAll_mk1 (shut_bool Tryz.underlying4 true)
  · have h3 := trodAll_mk3 (Below.trod Tryz.laidOut (by kernel_rfl) (of_decide_eq_true (by kernel_rfl)) h0k hb hlt) (Below.trod Tryz.laidOut (by kernel_rfl) (of_decide_eq_true (by kernel_rfl)) h1k hb hlt1) (shut_int (enc := enc) (w := W') Tryz.underlying3 hn1)
    rw [List.append_nil] at h3
    exact h3
theorem next_holds : Rows.FnExactBookNextSaid :=
  OpenClaim.holds_of_wide 5 Tryz.f5 rfl rfl rfl rfl rfl rfl rfl ⟨rfl, rfl, rfl, rfl, rfl⟩ rfl rfl rfl rfl rfl (by kernel_rfl) Tryz.func5 (by kernel_rfl)
    (of_decide_eq_true (by kernel_rfl)) (by unfold Func.isWrapper; rw [if_neg (of_decide_eq_false (by kernel_rfl))]; exact ⟨rfl, rfl⟩)
    (fun os started H enc _ => next_lifted os started H enc)
end Go.Proofs.YtkecnaaacbckoaaGreat
