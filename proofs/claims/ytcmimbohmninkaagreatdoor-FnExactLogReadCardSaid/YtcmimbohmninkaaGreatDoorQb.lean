import Derived.Test.YtcmimbohmninkaaGreatDoorQa
import Derived.Test.YtcmimbohmninkaaGreatDoorPx
namespace Go.Proofs.YtcmimbohmninkaaGreatDoor
open Go.RowKit
theorem mkWrs_small {x : Nat → Wr} {n : Nat} (h : n ≤ 1) : 1 ≤ mkWrs 1 x n ∧ mkWrs 1 x n ≤ 7 := by
  rcases (show n = 0 ∨ n = 1 by omega) with rfl | rfl <;> simp [mkWrs]
theorem markWt0 (wa : Option Addr) (wc : Nat) (w : World) : Calls Tryz.prog 25 #[.slice wa 0 wc, .int .i64 1] w fun e w' => e = .returned (.int .i64 1) ∧ Below w.heap.size w w' :=
  (markWts_own wa 0 0 (fun _ => wt0) wc 1 w (by omega) (by omega) (by simp [mkWts]) ⟨fun h => absurd h (Nat.lt_irrefl _), fun h => absurd h (Nat.lt_irrefl _)⟩).mono fun _ _ ⟨h1, _, h3⟩ => ⟨h1, h3.below (fun _ _ h => absurd h.1 (Nat.lt_irrefl _)) (Nat.le_refl _)⟩
theorem heldWt0 (wa : Option Addr) (wc : Nat) (w : World) : Calls Tryz.prog 27 #[.slice wa 0 wc, .int .i64 1] w fun e w' => e = .returned (.int .i64 1) ∧ Below w.heap.size w w' :=
  heldWts_own wa 0 0 (fun _ => wt0) wc 1 w (by omega) (by omega) (by simp [mkWts]) ⟨fun h => absurd h (Nat.lt_irrefl _), fun h => absurd h (Nat.lt_irrefl _)⟩
abbrev bdVr (wa ra : Option Addr) (wc rn rc : Nat) : Value := .agg #[.slice wa 0 wc, .slice ra rn rc]
abbrev bcCr (cl : ByteArray) (nn : Int) (wa ra : Option Addr) (wc rn rc : Nat) : Array Value := #[.string cl, .int .i64 nn, .slice wa 0 wc, .slice ra rn rc]
abbrev bcVr (cl : ByteArray) (nn : Int) (wa ra : Option Addr) (wc rn rc : Nat) : Value := .agg #[.string cl, .int .i64 nn, .slice wa 0 wc, .slice ra rn rc]
set_option maxRecDepth 100000 in
set_option maxHeartbeats 8000000 in
theorem markBd_any (wa ra : Option Addr) (wc rn rc g : Nat) (x : Nat → Wr) (w : World) (hn : rn ≤ 1) (hc : WrsAt w ra g rn x) :
    Calls Tryz.prog 15 #[bdVr wa ra wc rn rc, .int .i64 1] w fun e w' => e = .returned (.int .i64 (mkWrs 1 x rn)) ∧ WrsAt w' ra g rn (ykWr 1 x rn) ∧ FrP (fun k => 0 < rn ∧ k = g) w w' := by
  have HC := hid hc
  clear hc
  go_enter Tryz.func15, Tryz.ntmps15
  go_wp2_with fail
  refine (markWt0 wa wc _).mono ?_
  rintro e w1 ⟨rfl, hb1⟩
  have hz := hb1.size
  simp only [World.size_alloc] at hz
  have hB1 : Below w.heap.size w w1 := (below_alloc w _).trans (hb1.mono (by simp))
  have k1 : w1.cell? ⟨w.heap.size, 1, none⟩ = some (.slice ra rn rc) := (hb1.cell (p := ⟨w.heap.size, 1, none⟩) (by simp)).trans (by simp)
  go_wp2_with fail
  refine (markWrs_own ra g rn x rc 1 w1 (by omega) (by omega) (by have := mkWrs_small (x := x) hn; omega) (HC.out.grow hB1)).mono ?_
  rintro e w2 ⟨rfl, h2, hf2⟩
  have H2 := hid h2
  have HF := hid ((FrP.of_below hB1).trans hf2)
  clear h2 hf2
  go_wp2
  go_ret
  exact ⟨rfl, H2.out, HF.out⟩
set_option maxRecDepth 100000 in
set_option maxHeartbeats 8000000 in
theorem markBc_any (cl : ByteArray) (nn : Int) (wa ra : Option Addr) (wc rn rc g : Nat) (x : Nat → Wr) (w : World) (hn : rn ≤ 1) (hc : WrsAt w ra g rn x) :
    Calls Tryz.prog 7 #[bcVr cl nn wa ra wc rn rc, .int .i64 1] w fun e w' => e = .returned (.int .i64 (mkWrs 1 x rn)) ∧ WrsAt w' ra g rn (ykWr 1 x rn) ∧ FrP (fun k => 0 < rn ∧ k = g) w w' := by
  have HC := hid hc
  clear hc
  go_enter Tryz.func7, Tryz.ntmps7
  go_wp2_with fail
  refine (markBd_any wa ra wc rn rc g x _ hn (HC.out.grow (below_alloc w _))).mono ?_
  rintro e w2 ⟨rfl, h2, hf2⟩
  have H2 := hid h2
  have HF := hid ((FrP.of_below (below_alloc w _)).trans hf2)
  clear h2 hf2
  go_wp2
  go_ret
  exact ⟨rfl, H2.out, HF.out⟩
set_option maxRecDepth 100000 in
set_option maxHeartbeats 8000000 in
theorem heldBd_any (wa ra : Option Addr) (wc rn rc g : Nat) (x : Nat → Wr) (w : World) (hn : rn ≤ 1) (hc : WrsAt w ra g rn (ykWr 1 x rn)) :
    Calls Tryz.prog 16 #[bdVr wa ra wc rn rc, .int .i64 1] w fun e w' => e = .returned (.int .i64 (mkWrs 1 x rn)) ∧ Below w.heap.size w w' := by
  have HC := hid hc
  clear hc
  go_enter Tryz.func16, Tryz.ntmps16
  go_wp2_with fail
  refine (heldWt0 wa wc _).mono ?_
  rintro e w1 ⟨rfl, hb1⟩
  have hz := hb1.size
  simp only [World.size_alloc] at hz
  have hB1 : Below w.heap.size w w1 := (below_alloc w _).trans (hb1.mono (by simp))
  have k1 : w1.cell? ⟨w.heap.size, 1, none⟩ = some (.slice ra rn rc) := (hb1.cell (p := ⟨w.heap.size, 1, none⟩) (by simp)).trans (by simp)
  have hneg : ¬ (((mkWrs 1 x rn : Nat) : Int) < 0) := by omega
  go_wp2_with fail
  refine (heldWrs_own ra g rn x rc 1 w1 (by omega) (by omega) (by have := mkWrs_small (x := x) hn; omega) (HC.out.grow hB1)).mono ?_
  rintro e w2 ⟨rfl, hf2⟩
  have HF := hid (hB1.trans (hf2.mono hB1.size))
  clear hf2
  go_wp2
  go_ret
  exact ⟨rfl, HF.out⟩
set_option maxRecDepth 100000 in
set_option maxHeartbeats 8000000 in
theorem heldBc_any (cl : ByteArray) (nn : Int) (wa ra : Option Addr) (wc rn rc g : Nat) (x : Nat → Wr) (w : World) (hn : rn ≤ 1) (hc : WrsAt w ra g rn (ykWr 1 x rn)) :
    Calls Tryz.prog 8 #[bcVr cl nn wa ra wc rn rc, .int .i64 1] w fun e w' => e = .returned (.int .i64 (mkWrs 1 x rn)) ∧ Below w.heap.size w w' := by
  have HC := hid hc
  have hneg : ¬ (((mkWrs 1 x rn : Nat) : Int) < 0) := by omega
  clear hc
  go_enter Tryz.func8, Tryz.ntmps8
  go_wp2_with fail
  refine (heldBd_any wa ra wc rn rc g x _ hn (HC.out.grow (below_alloc w _))).mono ?_
  rintro e w2 ⟨rfl, hf2⟩
  have HF := hid ((below_alloc w _).trans (hf2.mono (by simp)))
  clear hf2
  go_wp2
  go_ret
  exact ⟨rfl, HF.out⟩
theorem rd_shape {s : ByteArray} {c : Bc} {b : Bool} (h : Rd s c b) : c.wn = 0 ∧ c.rn ≤ 1 := by
  rcases h with ⟨_, _, cl, nn, x, rfl, _⟩ | ⟨_, rfl, _⟩
  · exact ⟨rfl, Nat.le_refl _⟩
  · exact ⟨rfl, Nat.zero_le _⟩
/-- where the writes of a call that was read lie -/
theorem wrsAt_of {w : World} {lo hi : Nat} {c : Bc} {A : BcA} (h : BcIn w lo hi c A) (hf : FreeA w A) (hh : hi ≤ w.heap.size) (hn : c.rn ≤ 1) : ∃ g, (0 < c.rn → lo ≤ g ∧ g < hi) ∧ WrsAt w A.ra g c.rn c.rs := by
  rcases (show c.rn = 0 ∨ c.rn = 1 by omega) with h0 | h1
  · exact ⟨0, fun h => by omega, fun h => by omega, fun h => by omega⟩
  · obtain ⟨b, off, e, h2, h3, hc⟩ := h.rs 0 (by omega)
    obtain ⟨rfl, hz⟩ := hf b off e
    refine ⟨b, fun _ => ⟨h2, h3⟩, fun _ => e, fun _ => ?_⟩
    refine ⟨fun j => if j = 0 then .int .i64 (c.rs 0).op else if j = 1 then .string (c.rs 0).kind else if j = 2 then .string (c.rs 0).name else if j = 3 then .int .i64 (c.rs 0).seen else if j = 4 then .string (c.rs 0).text else .string (c.rs 0).hold, ⟨by omega, hz, fun j hj => ?_⟩, fun i hi' => ?_⟩
    · rcases (show j = 0 ∨ j = 1 ∨ j = 2 ∨ j = 3 ∨ j = 4 ∨ j = 5 by omega) with rfl | rfl | rfl | rfl | rfl | rfl
      · simpa using hc.c0
      · simpa using hc.c1
      · simpa using hc.c2
      · simpa using hc.c3
      · simpa using hc.c4
      · simpa using hc.c5
    · obtain rfl : i = 0 := by omega
      simp [atWr]
theorem holds4 {W : World} {B : Nat} {v0 v1 v2 v3 : Value} (h : Holds W B #[v0, v1, v2, v3]) : W.cell? ⟨B, 0, none⟩ = some v0 ∧ W.cell? ⟨B, 1, none⟩ = some v1 ∧ W.cell? ⟨B, 2, none⟩ = some v2 ∧ W.cell? ⟨B, 3, none⟩ = some v3 := ⟨h 0, h 1, h 2, h 3⟩
theorem Holds.frP {W W' : World} {B : Nat} {c : Array Value} {P : Nat → Prop} (h : Holds W B c) (hf : FrP P W W') (hB : B < W.heap.size) (hP : ¬ P B) : Holds W' B c := fun i => (hf.cell (p := ⟨B, i, none⟩) hB hP).trans (h i)
set_option maxRecDepth 100000 in
set_option maxHeartbeats 8000000 in
theorem read_law (s : ByteArray) (m : Int) (w : World) (hT : Tab w) (hE : Ers w) (h7 : w.cell? ⟨7, 0, none⟩ = some (.int .i64 m)) (h8 : ∃ e, w.cell? ⟨8, 0, none⟩ = some e ∧ ErrV e) (h9 : ∃ e, w.cell? ⟨9, 0, none⟩ = some e ∧ ErrV e) (hz : 9 < w.heap.size) :
    Calls Tryz.prog 3 #[.string s] w fun e w' => e = .returned (.bool true) ∧ Below w.heap.size w w' := by
  have cI : Hid (∀ X, (s.size : Int) ≤ 1048576 → Below w.heap.size w X → Calls Tryz.prog 5 #[.string s] X fun e w' => ReR s X e w') := hid fun X hs hb => implRead_any s hs m X (hT.below hb) (hE.below hb) ((hb.cell (p := ⟨7, 0, none⟩) (by show 7 < _; omega)).trans h7) (by obtain ⟨e, h1, h2⟩ := h8; exact ⟨e, (hb.cell (p := ⟨8, 0, none⟩) (by show 8 < _; omega)).trans h1, h2⟩) (by obtain ⟨e, h1, h2⟩ := h9; exact ⟨e, (hb.cell (p := ⟨9, 0, none⟩) (by show 9 < _; omega)).trans h1, h2⟩) (by have := hb.size; omega)
  clear hT hE h7 h8 h9 hz
  by_cases hs : (1048576 : Int) < (s.size : Int)
  · go_enter Tryz.func3, Tryz.ntmps3
    go_wp2
    go_ret
    exact ⟨rfl, Below.refl _ _⟩
  have hs' : (s.size : Int) ≤ 1048576 := by omega
  have cS := hid (specRead_any s hs' w)
  go_enter Tryz.func3, Tryz.ntmps3
  go_wp2_with fail
  refine cS.out.mono ?_
  clear cS
  rintro e w1 ⟨c, A, b, cl, nn, x, rfl, hlo, hrd, hin, hb1⟩
  obtain ⟨hw0, hr1⟩ := rd_shape hrd
  have LO := hid hlo
  have RD := hid hrd
  have IN1 := hid hin
  clear hlo hrd hin
  obtain ⟨ccl, cnn, cwn, cws, rn, rs⟩ := c
  obtain ⟨wa, ra, wc, rc⟩ := A
  dsimp only at hw0 hr1
  subst hw0
  have hneg : ¬ (((mkWrs 1 rs rn : Nat) : Int) < 0) := by omega
  have HB1 := hid hb1
  clear hb1
  cases b
  · go_wp2_with fail
    refine (cI.out _ hs' ((HB1.out).trans ((below_alloc w1 _).mono HB1.out.size))).mono ?_
    rintro e w2 ⟨c2, A2, b2, rfl, hrd2, hin2, hb2, hfr2⟩
    obtain ⟨rfl, rfl⟩ := rd_one LO.out hrd2 RD.out
    obtain ⟨wa2, ra2, wc2, rc2⟩ := A2
    have z1 := HB1.out.size
    have z2 := hb2.size
    obtain ⟨g, hg, hat⟩ := wrsAt_of hin2 hfr2 (Nat.le_refl _) hr1
    simp only [World.size_alloc] at hg z2
    dsimp only at hg hat
    have IN2 := hid hin2
    have AT2 := hid hat
    have b12 : Below w1.heap.size w1 w2 := (below_alloc w1 _).trans (hb2.mono (by simp))
    have K3 : Holds w2 w1.heap.size (bcCr ccl cnn wa ra wc rn rc) := (holds_new w1 _ 27).below hb2 (by simp)
    clear hin2 hat hrd2 hfr2 hb2
    obtain ⟨k0, k1, k2, k3⟩ := holds4 K3
    have a0 : ∀ o, (w2.alloc o).cell? ⟨w1.heap.size, 0, none⟩ = some (.string ccl) := fun o => (World.cell?_alloc_past _ _ _ (by (try simp); omega)).trans k0
    have a1 : ∀ o, (w2.alloc o).cell? ⟨w1.heap.size, 1, none⟩ = some (.int .i64 cnn) := fun o => (World.cell?_alloc_past _ _ _ (by (try simp); omega)).trans k1
    have a2 : ∀ o, (w2.alloc o).cell? ⟨w1.heap.size, 2, none⟩ = some (.slice wa 0 wc) := fun o => (World.cell?_alloc_past _ _ _ (by (try simp); omega)).trans k2
    have a3 : ∀ o, (w2.alloc o).cell? ⟨w1.heap.size, 3, none⟩ = some (.slice ra rn rc) := fun o => (World.cell?_alloc_past _ _ _ (by (try simp); omega)).trans k3
    go_wp2_with fail
    obtain ⟨W2, hW2⟩ : ∃ W2, w2.alloc (.cells (bcCr ccl cnn wa2 ra2 wc2 rn rc2) 27) = W2 := ⟨_, rfl⟩
    have bW2 : Below w2.heap.size w2 W2 := by rw [← hW2]; exact below_alloc _ _
    have sW2 : W2.heap.size = w2.heap.size + 1 := by rw [← hW2]; simp
    have K4 : Holds W2 w2.heap.size (bcCr ccl cnn wa2 ra2 wc2 rn rc2) := by rw [← hW2]; exact holds_new _ _ _
    have K3' : Holds W2 w1.heap.size (bcCr ccl cnn wa ra wc rn rc) := K3.below bW2 (by omega)
    have HI2 := hid ((IN2.out.below bW2 (Nat.le_refl _)).mono (Nat.zero_le _) (Nat.le_refl _))
    have HI1 := hid (IN1.out.below (b12.trans (bW2.mono (by omega))) (Nat.le_refl _))
    have AT3 := hid (AT2.out.grow bW2)
    rw [hW2]
    clear hW2 a0 a1 a2 a3 k0 k1 k2 k3 K3 AT2 IN2
    refine (eqBc_any ⟨ccl, cnn, 0, cws, rn, rs⟩ ⟨wa2, ra2, wc2, rc2⟩ ⟨wa, ra, wc, rc⟩ W2 0 w2.heap.size w.heap.size w1.heap.size (by omega) (by omega) ⟨by show ((0 : Nat) : Int) ≤ _; omega, by show (rn : Int) ≤ _; omega⟩ HI2.out HI1.out).mono ?_
    rintro e w3 ⟨rfl, hb3⟩
    have z3 := hb3.size
    have K4a : Holds w3 w2.heap.size (bcCr ccl cnn wa2 ra2 wc2 rn rc2) := K4.below hb3 (by omega)
    have K3a : Holds w3 w1.heap.size (bcCr ccl cnn wa ra wc rn rc) := K3'.below hb3 (by omega)
    have AT4 := hid (AT3.out.grow hb3)
    have b13 : Below w1.heap.size w1 w3 := (b12.trans (bW2.mono (by omega))).trans (hb3.mono (by omega))
    clear K4 K3' hb3 b12 bW2 AT3 HI2 HI1
    obtain ⟨k0, k1, k2, k3⟩ := holds4 K4a
    go_wp2_with fail
    refine (markBc_any ccl cnn wa2 ra2 wc2 rn rc2 g rs w3 hr1 AT4.out).mono ?_
    clear k0 k1 k2 k3
    rintro e w4 ⟨rfl, m4, f4⟩
    have z4 := f4.size
    have K4b : Holds w4 w2.heap.size (bcCr ccl cnn wa2 ra2 wc2 rn rc2) := K4a.frP f4 (by omega) (fun h => by have := hg h.1; omega)
    have K3b : Holds w4 w1.heap.size (bcCr ccl cnn wa ra wc rn rc) := K3a.frP f4 (by omega) (fun h => by have := hg h.1; omega)
    have b14 : Below w1.heap.size w1 w4 := b13.trans (f4.below (fun k hk h => by have := hg h.1; omega) (by omega))
    clear K4a K3a AT4 b13 f4
    obtain ⟨k0, k1, k2, k3⟩ := holds4 K4b
    have M4 := hid m4
    clear m4
    go_wp2_with fail
    refine (heldBc_any ccl cnn wa2 ra2 wc2 rn rc2 g rs w4 hr1 M4.out).mono ?_
    clear k0 k1 k2 k3
    rintro e w5 ⟨rfl, hb5⟩
    have z5 := hb5.size
    have K4c : Holds w5 w2.heap.size (bcCr ccl cnn wa2 ra2 wc2 rn rc2) := K4b.below hb5 (by omega)
    have K3c : Holds w5 w1.heap.size (bcCr ccl cnn wa ra wc rn rc) := K3b.below hb5 (by omega)
    have M5 := hid (M4.out.grow hb5)
    have b15 : Below w1.heap.size w1 w5 := b14.trans (hb5.mono (by omega))
    clear K4b K3b hb5 b14 M4
    go_wp2_with fail
    refine (cI.out _ hs' (HB1.out.trans (b15.mono HB1.out.size))).mono ?_
    rintro e w6 ⟨c3, A3, b3, rfl, hrd3, hin3, hb6, _⟩
    obtain ⟨rfl, rfl⟩ := rd_one LO.out hrd3 RD.out
    obtain ⟨wa3, ra3, wc3, rc3⟩ := A3
    have z6 := hb6.size
    have K4d : Holds w6 w2.heap.size (bcCr ccl cnn wa2 ra2 wc2 rn rc2) := K4c.below hb6 (by omega)
    have K3d : Holds w6 w1.heap.size (bcCr ccl cnn wa ra wc rn rc) := K3c.below hb6 (by omega)
    have M6 := hid (M5.out.grow hb6)
    have b16 : Below w1.heap.size w1 w6 := b15.trans (hb6.mono (by omega))
    have IN3 := hid hin3
    clear K4c K3c hb6 b15 M5 hin3 hrd3
    obtain ⟨k0, k1, k2, k3⟩ := holds4 K3d
    have a0 : ∀ o, (w6.alloc o).cell? ⟨w1.heap.size, 0, none⟩ = some (.string ccl) := fun o => (World.cell?_alloc_past _ _ _ (by (try simp); omega)).trans k0
    have a1 : ∀ o, (w6.alloc o).cell? ⟨w1.heap.size, 1, none⟩ = some (.int .i64 cnn) := fun o => (World.cell?_alloc_past _ _ _ (by (try simp); omega)).trans k1
    have a2 : ∀ o, (w6.alloc o).cell? ⟨w1.heap.size, 2, none⟩ = some (.slice wa 0 wc) := fun o => (World.cell?_alloc_past _ _ _ (by (try simp); omega)).trans k2
    have a3 : ∀ o, (w6.alloc o).cell? ⟨w1.heap.size, 3, none⟩ = some (.slice ra rn rc) := fun o => (World.cell?_alloc_past _ _ _ (by (try simp); omega)).trans k3
    go_wp2_with fail
    obtain ⟨W6, hW6⟩ : ∃ W6, w6.alloc (.cells (bcCr ccl cnn wa3 ra3 wc3 rn rc3) 27) = W6 := ⟨_, rfl⟩
    have bW6 : Below w6.heap.size w6 W6 := by rw [← hW6]; exact below_alloc _ _
    have sW6 : W6.heap.size = w6.heap.size + 1 := by rw [← hW6]; simp
    have K4e : Holds W6 w2.heap.size (bcCr ccl cnn wa2 ra2 wc2 rn rc2) := K4d.below bW6 (by omega)
    have M7 := hid (M6.out.grow bW6)
    have b17 : Below w1.heap.size w1 W6 := b16.trans (bW6.mono (by omega))
    have HI3 := hid ((IN3.out.below bW6 (Nat.le_refl _)).mono (Nat.zero_le _) (Nat.le_refl _))
    have HI1 := hid (IN1.out.below b17 (Nat.le_refl _))
    rw [hW6]
    clear hW6 a0 a1 a2 a3 k0 k1 k2 k3 K3d K4d b16 M6 bW6 IN3
    refine (eqBc_any ⟨ccl, cnn, 0, cws, rn, rs⟩ ⟨wa3, ra3, wc3, rc3⟩ ⟨wa, ra, wc, rc⟩ W6 0 w6.heap.size w.heap.size w1.heap.size (by omega) (by omega) ⟨by show ((0 : Nat) : Int) ≤ _; omega, by show (rn : Int) ≤ _; omega⟩ HI3.out HI1.out).mono ?_
    rintro e w7 ⟨rfl, hb7⟩
    have z7 := hb7.size
    obtain ⟨k0, k1, k2, k3⟩ := holds4 (K4e.below hb7 (by omega))
    have M8 := hid (M7.out.grow hb7)
    have b18 : Below w1.heap.size w1 w7 := b17.trans (hb7.mono (by omega))
    clear K4e M7 b17 hb7 HI3 HI1
    go_wp2_with fail
    refine (heldBc_any ccl cnn wa2 ra2 wc2 rn rc2 g rs w7 hr1 M8.out).mono ?_
    rintro e w8 ⟨rfl, hb8⟩
    have hbf : Below w.heap.size w w8 := (HB1.out.trans (b18.mono HB1.out.size)).trans (hb8.mono (by have := HB1.out.size; omega))
    clear k0 k1 k2 k3 M8 b18 hb8
    go_wp2
    go_ret
    exact ⟨rfl, hbf⟩
  · go_wp2_with fail
    refine (cI.out _ hs' ((HB1.out).trans ((below_alloc w1 _).mono HB1.out.size))).mono ?_
    rintro e w2 ⟨c2, A2, b2, rfl, hrd2, hin2, hb2, hfr2⟩
    obtain ⟨rfl, rfl⟩ := rd_one LO.out hrd2 RD.out
    obtain ⟨wa2, ra2, wc2, rc2⟩ := A2
    have z1 := HB1.out.size
    have z2 := hb2.size
    obtain ⟨g, hg, hat⟩ := wrsAt_of hin2 hfr2 (Nat.le_refl _) hr1
    simp only [World.size_alloc] at hg z2
    dsimp only at hg hat
    have IN2 := hid hin2
    have AT2 := hid hat
    have b12 : Below w1.heap.size w1 w2 := (below_alloc w1 _).trans (hb2.mono (by simp))
    have K3 : Holds w2 w1.heap.size (bcCr ccl cnn wa ra wc rn rc) := (holds_new w1 _ 27).below hb2 (by simp)
    clear hin2 hat hrd2 hfr2 hb2
    obtain ⟨k0, k1, k2, k3⟩ := holds4 K3
    have a0 : ∀ o, (w2.alloc o).cell? ⟨w1.heap.size, 0, none⟩ = some (.string ccl) := fun o => (World.cell?_alloc_past _ _ _ (by (try simp); omega)).trans k0
    have a1 : ∀ o, (w2.alloc o).cell? ⟨w1.heap.size, 1, none⟩ = some (.int .i64 cnn) := fun o => (World.cell?_alloc_past _ _ _ (by (try simp); omega)).trans k1
    have a2 : ∀ o, (w2.alloc o).cell? ⟨w1.heap.size, 2, none⟩ = some (.slice wa 0 wc) := fun o => (World.cell?_alloc_past _ _ _ (by (try simp); omega)).trans k2
    have a3 : ∀ o, (w2.alloc o).cell? ⟨w1.heap.size, 3, none⟩ = some (.slice ra rn rc) := fun o => (World.cell?_alloc_past _ _ _ (by (try simp); omega)).trans k3
    go_wp2_with fail
    obtain ⟨W2, hW2⟩ : ∃ W2, w2.alloc (.cells (bcCr ccl cnn wa2 ra2 wc2 rn rc2) 27) = W2 := ⟨_, rfl⟩
    have bW2 : Below w2.heap.size w2 W2 := by rw [← hW2]; exact below_alloc _ _
    have sW2 : W2.heap.size = w2.heap.size + 1 := by rw [← hW2]; simp
    have K4 : Holds W2 w2.heap.size (bcCr ccl cnn wa2 ra2 wc2 rn rc2) := by rw [← hW2]; exact holds_new _ _ _
    have K3' : Holds W2 w1.heap.size (bcCr ccl cnn wa ra wc rn rc) := K3.below bW2 (by omega)
    have HI2 := hid ((IN2.out.below bW2 (Nat.le_refl _)).mono (Nat.zero_le _) (Nat.le_refl _))
    have HI1 := hid (IN1.out.below (b12.trans (bW2.mono (by omega))) (Nat.le_refl _))
    have AT3 := hid (AT2.out.grow bW2)
    rw [hW2]
    clear hW2 a0 a1 a2 a3 k0 k1 k2 k3 K3 AT2 IN2
    refine (eqBc_any ⟨ccl, cnn, 0, cws, rn, rs⟩ ⟨wa2, ra2, wc2, rc2⟩ ⟨wa, ra, wc, rc⟩ W2 0 w2.heap.size w.heap.size w1.heap.size (by omega) (by omega) ⟨by show ((0 : Nat) : Int) ≤ _; omega, by show (rn : Int) ≤ _; omega⟩ HI2.out HI1.out).mono ?_
    rintro e w3 ⟨rfl, hb3⟩
    have z3 := hb3.size
    have K4a : Holds w3 w2.heap.size (bcCr ccl cnn wa2 ra2 wc2 rn rc2) := K4.below hb3 (by omega)
    have K3a : Holds w3 w1.heap.size (bcCr ccl cnn wa ra wc rn rc) := K3'.below hb3 (by omega)
    have AT4 := hid (AT3.out.grow hb3)
    have b13 : Below w1.heap.size w1 w3 := (b12.trans (bW2.mono (by omega))).trans (hb3.mono (by omega))
    clear K4 K3' hb3 b12 bW2 AT3 HI2 HI1
    obtain ⟨k0, k1, k2, k3⟩ := holds4 K4a
    go_wp2_with fail
    refine (markBc_any ccl cnn wa2 ra2 wc2 rn rc2 g rs w3 hr1 AT4.out).mono ?_
    clear k0 k1 k2 k3
    rintro e w4 ⟨rfl, m4, f4⟩
    have z4 := f4.size
    have K4b : Holds w4 w2.heap.size (bcCr ccl cnn wa2 ra2 wc2 rn rc2) := K4a.frP f4 (by omega) (fun h => by have := hg h.1; omega)
    have K3b : Holds w4 w1.heap.size (bcCr ccl cnn wa ra wc rn rc) := K3a.frP f4 (by omega) (fun h => by have := hg h.1; omega)
    have b14 : Below w1.heap.size w1 w4 := b13.trans (f4.below (fun k hk h => by have := hg h.1; omega) (by omega))
    clear K4a K3a AT4 b13 f4
    obtain ⟨k0, k1, k2, k3⟩ := holds4 K4b
    have M4 := hid m4
    clear m4
    go_wp2_with fail
    refine (heldBc_any ccl cnn wa2 ra2 wc2 rn rc2 g rs w4 hr1 M4.out).mono ?_
    clear k0 k1 k2 k3
    rintro e w5 ⟨rfl, hb5⟩
    have z5 := hb5.size
    have K4c : Holds w5 w2.heap.size (bcCr ccl cnn wa2 ra2 wc2 rn rc2) := K4b.below hb5 (by omega)
    have K3c : Holds w5 w1.heap.size (bcCr ccl cnn wa ra wc rn rc) := K3b.below hb5 (by omega)
    have M5 := hid (M4.out.grow hb5)
    have b15 : Below w1.heap.size w1 w5 := b14.trans (hb5.mono (by omega))
    clear K4b K3b hb5 b14 M4
    go_wp2_with fail
    refine (cI.out _ hs' (HB1.out.trans (b15.mono HB1.out.size))).mono ?_
    rintro e w6 ⟨c3, A3, b3, rfl, hrd3, hin3, hb6, _⟩
    obtain ⟨rfl, rfl⟩ := rd_one LO.out hrd3 RD.out
    obtain ⟨wa3, ra3, wc3, rc3⟩ := A3
    have z6 := hb6.size
    have K4d : Holds w6 w2.heap.size (bcCr ccl cnn wa2 ra2 wc2 rn rc2) := K4c.below hb6 (by omega)
    have K3d : Holds w6 w1.heap.size (bcCr ccl cnn wa ra wc rn rc) := K3c.below hb6 (by omega)
    have M6 := hid (M5.out.grow hb6)
    have b16 : Below w1.heap.size w1 w6 := b15.trans (hb6.mono (by omega))
    have IN3 := hid hin3
    clear K4c K3c hb6 b15 M5 hin3 hrd3
    obtain ⟨k0, k1, k2, k3⟩ := holds4 K3d
    have a0 : ∀ o, (w6.alloc o).cell? ⟨w1.heap.size, 0, none⟩ = some (.string ccl) := fun o => (World.cell?_alloc_past _ _ _ (by (try simp); omega)).trans k0
    have a1 : ∀ o, (w6.alloc o).cell? ⟨w1.heap.size, 1, none⟩ = some (.int .i64 cnn) := fun o => (World.cell?_alloc_past _ _ _ (by (try simp); omega)).trans k1
    have a2 : ∀ o, (w6.alloc o).cell? ⟨w1.heap.size, 2, none⟩ = some (.slice wa 0 wc) := fun o => (World.cell?_alloc_past _ _ _ (by (try simp); omega)).trans k2
    have a3 : ∀ o, (w6.alloc o).cell? ⟨w1.heap.size, 3, none⟩ = some (.slice ra rn rc) := fun o => (World.cell?_alloc_past _ _ _ (by (try simp); omega)).trans k3
    go_wp2_with fail
    obtain ⟨W6, hW6⟩ : ∃ W6, w6.alloc (.cells (bcCr ccl cnn wa3 ra3 wc3 rn rc3) 27) = W6 := ⟨_, rfl⟩
    have bW6 : Below w6.heap.size w6 W6 := by rw [← hW6]; exact below_alloc _ _
    have sW6 : W6.heap.size = w6.heap.size + 1 := by rw [← hW6]; simp
    have K4e : Holds W6 w2.heap.size (bcCr ccl cnn wa2 ra2 wc2 rn rc2) := K4d.below bW6 (by omega)
    have M7 := hid (M6.out.grow bW6)
    have b17 : Below w1.heap.size w1 W6 := b16.trans (bW6.mono (by omega))
    have HI3 := hid ((IN3.out.below bW6 (Nat.le_refl _)).mono (Nat.zero_le _) (Nat.le_refl _))
    have HI1 := hid (IN1.out.below b17 (Nat.le_refl _))
    rw [hW6]
    clear hW6 a0 a1 a2 a3 k0 k1 k2 k3 K3d K4d b16 M6 bW6 IN3
    refine (eqBc_any ⟨ccl, cnn, 0, cws, rn, rs⟩ ⟨wa3, ra3, wc3, rc3⟩ ⟨wa, ra, wc, rc⟩ W6 0 w6.heap.size w.heap.size w1.heap.size (by omega) (by omega) ⟨by show ((0 : Nat) : Int) ≤ _; omega, by show (rn : Int) ≤ _; omega⟩ HI3.out HI1.out).mono ?_
    rintro e w7 ⟨rfl, hb7⟩
    have z7 := hb7.size
    obtain ⟨k0, k1, k2, k3⟩ := holds4 (K4e.below hb7 (by omega))
    have M8 := hid (M7.out.grow hb7)
    have b18 : Below w1.heap.size w1 w7 := b17.trans (hb7.mono (by omega))
    clear K4e M7 b17 hb7 HI3 HI1
    go_wp2_with fail
    refine (heldBc_any ccl cnn wa2 ra2 wc2 rn rc2 g rs w7 hr1 M8.out).mono ?_
    rintro e w8 ⟨rfl, hb8⟩
    have hbf : Below w.heap.size w w8 := (HB1.out.trans (b18.mono HB1.out.size)).trans (hb8.mono (by have := HB1.out.size; omega))
    clear k0 k1 k2 k3 M8 b18 hb8
    go_wp2
    go_ret
    exact ⟨rfl, hbf⟩
end Go.Proofs.YtcmimbohmninkaaGreatDoor
