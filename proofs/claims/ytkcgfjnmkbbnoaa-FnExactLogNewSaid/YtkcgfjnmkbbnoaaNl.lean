import Derived.Test.YtkcgfjnmkbbnoaaIe
import Derived.Test.YtkcgfjnmkbbnoaaO
import Derived.ProofKit
import Derived.SizedLaws
namespace Go.Proofs.Ytkcgfjnmkbbnoaa
open Go.ChangeShapes Go.WideShapes Go.ChangeAt Go.RowKit
open Go.WideMaps Go.WideElems
def nwR (n : Nat) : Rw := ⟨n, fun i => rc0 ((i : Int) + 1) n true, 0, fun _ => ⟨0, 0, 0, 0, 0, 0, ⟨#[]⟩, 0, fun _ => ⟨0, ⟨#[]⟩⟩⟩, 0, fun _ => ⟨0, ⟨#[]⟩⟩⟩
def nwA (ad : Option Addr) (cap : Nat) : RwA := ⟨ad, none, none, cap, 0, 0, fun _ => rcA0⟩
theorem nwR_fit {n : Nat} (h : n ≤ 5) : RwFit (nwR n) := ⟨by show (n : Int) ≤ _; omega, fun i _ => rc0_fit _ _ _, by show ((0 : Nat) : Int) ≤ _; omega, fun i hi => absurd hi (Nat.not_lt_zero _), by show ((0 : Nat) : Int) ≤ _; omega, fun i hi => absurd hi (Nat.not_lt_zero _)⟩
abbrev NwIn (w : World) (lo hi n : Nat) (ad : Option Addr) : Prop := RcsIn w lo hi ad n (fun i => rc0 ((i : Int) + 1) n true) (fun _ => rcA0)
theorem nwR_in {w : World} {lo hi n : Nat} {ad : Option Addr} {cap : Nat} (h : NwIn w lo hi n ad) : RwIn w lo hi (nwR n) (nwA ad cap) := ⟨h, fun _i hi => absurd hi (Nat.not_lt_zero _), fun _i hi => absurd hi (Nat.not_lt_zero _)⟩
theorem NwRow.isIn {w : World} {g n lo : Nat} (h : NwRow w g n n) (hl : lo ≤ g) : NwIn w lo w.heap.size n (some ⟨g, 0, none⟩) := fun i hi =>
  ⟨g, 0, rfl, hl, h.room.lt, by rw [Nat.zero_add]; exact h.at_ i hi, rc0_in _ _ _ _ _ _⟩
theorem NwIn.grow {w w' : World} {lo hi n : Nat} {ad : Option Addr} (h : NwIn w lo hi n ad) (hb : Below hi w w') : NwIn w' lo hi n ad := ((nwR_in (cap := 0) h).below hb (Nat.le_refl _)).1
abbrev lwC (ad : Option Addr) (n cap : Nat) : Array Value := #[.slice ad n cap, .slice none 0 0, .slice none 0 0, .int .i64 0, .slice none 0 0]
abbrev lwV (ad : Option Addr) (n cap : Nat) : Value := .agg #[.slice ad n cap, .slice none 0 0, .slice none 0 0, .int .i64 0, .slice none 0 0]
theorem lw_sz : (Try.prog.info? 29).map (·.size) = some 5 := by kernel_rfl
theorem holds5 {W : World} {B : Nat} {v0 v1 v2 v3 v4 : Value} (h : Holds W B #[v0, v1, v2, v3, v4]) : W.cell? ⟨B, 0, none⟩ = some v0 ∧ W.cell? ⟨B, 1, none⟩ = some v1 ∧ W.cell? ⟨B, 2, none⟩ = some v2 ∧ W.cell? ⟨B, 3, none⟩ = some v3 ∧ W.cell? ⟨B, 4, none⟩ = some v4 := ⟨h 0, h 1, h 2, h 3, h 4⟩
/-- what the law wants of a side's RecNewWorld -/
structure NwWays (a : Int) (n d : Nat) (Nw Mk : World → Nat → Option Addr → Nat → Prop) : Prop where
  n5 : n ≤ 5
  spec : ∀ w, Calls Try.prog 9 #[.int .i64 a] w fun e w' => ∃ ad cap, e = .returned (.agg #[.slice ad n cap, .slice none 0 0, .slice none 0 0]) ∧ NwIn w' w.heap.size w'.heap.size n ad ∧ Below w.heap.size w w'
  impl : ∀ w, Calls Try.prog 10 #[.int .i64 a] w fun e w' => ∃ ad cap g, e = .returned (.agg #[.slice ad n cap, .slice none 0 0, .slice none 0 0]) ∧ w.heap.size ≤ g ∧ g + d ≤ w'.heap.size ∧ Nw w' g ad cap ∧ Below w.heap.size w w'
  isIn : ∀ w g ad cap lo, Nw w g ad cap → lo ≤ g → NwIn w lo w.heap.size n ad
  nwB : ∀ w w' g ad cap, Nw w g ad cap → Below w.heap.size w w' → Nw w' g ad cap
  nwF : ∀ w w2 g ad cap R, Nw w g ad cap → R < g → Fr R (R + 1) w w2 → Nw w2 g ad cap
  mkB : ∀ w w' g ad cap, Mk w g ad cap → Below w.heap.size w w' → Mk w' g ad cap
  mark : ∀ w g ad cap, Nw w g ad cap → Calls Try.prog 13 #[.agg #[.slice ad n cap, .slice none 0 0, .slice none 0 0], .int .i64 1] w fun e w' => e = .returned (.int .i64 (1 + 11 * n)) ∧ Mk w' g ad cap ∧ Fr g (g + d) w w'
  held : ∀ w g ad cap, Mk w g ad cap → Calls Try.prog 15 #[.agg #[.slice ad n cap, .slice none 0 0, .slice none 0 0], .int .i64 1] w fun e w' => e = .returned (.int .i64 (1 + 11 * n)) ∧ Below w.heap.size w w'
theorem waysYes (n : Nat) (h1 : 1 ≤ n) (h5 : n ≤ 5) : NwWays n n 1 (fun w g ad cap => ad = some ⟨g, 0, none⟩ ∧ cap = n ∧ NwRow w g n n) (fun w g ad cap => ad = some ⟨g, 0, none⟩ ∧ cap = n ∧ MkRow w g n 1) where
  n5 := h5
  spec w := newSpecYes_any n w h1 h5
  impl w := (newWorldYes_any n w h1 h5).mono fun e w' ⟨g, e1, e2, e3, e4⟩ => ⟨some ⟨g, 0, none⟩, n, g, e1, e2, e3.room.lt, ⟨rfl, rfl, e3⟩, e4⟩
  isIn w g ad cap lo := fun ⟨e1, _, h⟩ hl => by subst e1; exact h.isIn hl
  nwB w w' g ad cap := fun ⟨e1, e2, h⟩ hb => ⟨e1, e2, h.fr (lo := 0) (hi := 0) (Fr.of_below hb) (Or.inr (Nat.zero_le _))⟩
  nwF w w2 g ad cap R := fun ⟨e1, e2, h⟩ hR hf => ⟨e1, e2, h.fr hf (Or.inr hR)⟩
  mkB w w' g ad cap := fun ⟨e1, e2, h⟩ hb => ⟨e1, e2, h.fr (lo := 0) (hi := 0) (Fr.of_below hb) (Or.inr (Nat.zero_le _))⟩
  mark w g ad cap := fun ⟨e1, e2, h⟩ => by subst e1 e2; exact (markNw_any g _ w h5 h).mono fun e w' ⟨k1, k2, k3⟩ => ⟨k1, ⟨rfl, rfl, k2⟩, k3⟩
  held w g ad cap := fun ⟨e1, e2, h⟩ => by subst e1 e2; exact heldNw_any g _ w h5 h
theorem waysNo (a : Int) (h : inB a 1 5 = false) : NwWays a 0 0 (fun _ _ ad cap => ad = none ∧ cap = 0) (fun _ _ ad cap => ad = none ∧ cap = 0) where
  n5 := Nat.zero_le _
  spec w := (newSpecNo_any a w h).mono fun e w' ⟨e1, e2⟩ => ⟨none, 0, e1, fun i hi => absurd hi (Nat.not_lt_zero _), e2⟩
  impl w := (newWorldNo_any a w h).mono fun e w' ⟨e1, e2⟩ => ⟨none, 0, w.heap.size, e1, Nat.le_refl _, e2.size, ⟨rfl, rfl⟩, e2⟩
  isIn w g ad cap lo := fun _ _ i hi => absurd hi (Nat.not_lt_zero _)
  nwB w w' g ad cap := fun h _ => h
  nwF w w2 g ad cap R := fun h _ _ => h
  mkB w w' g ad cap := fun h _ => h
  mark w g ad cap := fun ⟨e1, e2⟩ => by subst e1 e2; exact (markZ_any w).mono fun e w' ⟨k1, k2⟩ => ⟨k1, ⟨rfl, rfl⟩, Fr.of_below k2⟩
  held w g ad cap := fun ⟨e1, e2⟩ => by subst e1 e2; exact heldZ_any w
set_option maxRecDepth 100000 in
set_option maxHeartbeats 8000000 in
theorem specLogNew {a : Int} {n d : Nat} {Nw Mk : World → Nat → Option Addr → Nat → Prop} (hh : NwWays a n d Nw Mk) (w : World) :
    Calls Try.prog 4 #[.int .i64 a] w fun e w' => ∃ ad cap, e = .returned (lwV ad n cap) ∧ NwIn w' w.heap.size w'.heap.size n ad ∧ Below w.heap.size w w' := by
  have HH := hid (hh.spec (w.alloc (.cells #[.slice none 0 0, .slice none 0 0, .slice none 0 0, .int .i64 0, .slice none 0 0] 29)))
  clear hh
  go_enter Try.func4, Try.ntmps4
  go_wp2_with (first | (go_at_call 9; go_must (refine HH.out.mono ?_; rintro e w1 ⟨ad, cap, rfl, hin, hb1⟩; have HIN := hid hin; have HB1 := hid hb1; have HTH : Hid (w1.there w.heap.size 0 5) := hid (Holds.there (c := #[.slice none 0 0, .slice none 0 0, .slice none 0 0, .int .i64 0, .slice none 0 0]) ((holds_new w #[.slice none 0 0, .slice none 0 0, .slice none 0 0, .int .i64 0, .slice none 0 0] 29).below hb1 (by simp)) (fun i => (hb1.frozen (p := ⟨w.heap.size, i, none⟩) (by simp)).trans (by rw [World.frozen?_alloc_at _ _ _ _ rfl]))); clear hin hb1)) | ((with_reducible show wpList _ _ _ (⟨none, Op.store 29 _ _, _, _, _, _⟩ :: _) _ _); go_must (refine wpList_store_new rfl 29 _ _ rfl w.heap.size (lwC ad n cap).toList rfl rfl HTH.out lw_sz (by simp [Value.oneCell']) ?_; intro W2 hr2 hf2 hs2; have HR2 := hid hr2; have HF2 := hid hf2; have HS2 := hid hs2; clear hr2 hf2 hs2)))
  have z1 := HB1.out.size
  simp only [World.size_alloc] at z1
  have hB : Below w.heap.size w W2 := ((below_alloc w _).trans (HB1.out.mono (by simp))).trans (HF2.out.below (Nat.le_refl _) (by omega))
  refine bodyPost_ret (v := lwV ad n cap) (results_cell_mid rfl _ _ w.heap.size (lwC ad n cap).toList _ rfl HR2.out Try.underlying29 rfl lw_sz) rfl ?_
  refine ⟨ad, ⟨cap, rfl⟩, ?_, hB⟩
  intro i hi
  obtain ⟨g, o, e1, e2, e3, e4, e5⟩ := HIN.out i hi
  simp only [World.size_alloc] at e2
  have hc : ∀ j, W2.cell? ⟨g, j, none⟩ = w1.cell? ⟨g, j, none⟩ := fun j => HF2.out.cell (p := ⟨g, j, none⟩) e3 (Or.inr (by show _ ≤ g; omega))
  exact ⟨g, o, e1, by omega, by rw [HS2.out]; exact e3, rangeAt_same e4 hc, rc0_in _ _ _ _ _ _⟩
set_option maxRecDepth 100000 in
set_option maxHeartbeats 8000000 in
theorem implLogNew {a : Int} {n d : Nat} {Nw Mk : World → Nat → Option Addr → Nat → Prop} (hh : NwWays a n d Nw Mk) (w : World) :
    Calls Try.prog 5 #[.int .i64 a] w fun e w' => ∃ ad cap g, e = .returned (lwV ad n cap) ∧ w.heap.size ≤ g ∧ g + d ≤ w'.heap.size ∧ Nw w' g ad cap ∧ Below w.heap.size w w' := by
  have HH := hid (hh.impl (w.alloc (.cells #[.slice none 0 0, .slice none 0 0, .slice none 0 0, .int .i64 0, .slice none 0 0] 29)))
  have NF := hid hh.nwF
  clear hh
  go_enter Try.func5, Try.ntmps5
  go_wp2_with (first | (go_at_call 10; go_must (refine HH.out.mono ?_; rintro e w1 ⟨ad, cap, g, rfl, hg, hgd, hin, hb1⟩; have HIN := hid hin; have HB1 := hid hb1; have HTH : Hid (w1.there w.heap.size 0 5) := hid (Holds.there (c := #[.slice none 0 0, .slice none 0 0, .slice none 0 0, .int .i64 0, .slice none 0 0]) ((holds_new w #[.slice none 0 0, .slice none 0 0, .slice none 0 0, .int .i64 0, .slice none 0 0] 29).below hb1 (by simp)) (fun i => (hb1.frozen (p := ⟨w.heap.size, i, none⟩) (by simp)).trans (by rw [World.frozen?_alloc_at _ _ _ _ rfl]))); clear hin hb1)) | ((with_reducible show wpList _ _ _ (⟨none, Op.store 29 _ _, _, _, _, _⟩ :: _) _ _); go_must (refine wpList_store_new rfl 29 _ _ rfl w.heap.size (lwC ad n cap).toList rfl rfl HTH.out lw_sz (by simp [Value.oneCell']) ?_; intro W2 hr2 hf2 hs2; have HR2 := hid hr2; have HF2 := hid hf2; have HS2 := hid hs2; clear hr2 hf2 hs2)))
  have z1 := HB1.out.size
  simp only [World.size_alloc] at z1
  have hB : Below w.heap.size w W2 := ((below_alloc w _).trans (HB1.out.mono (by simp))).trans (HF2.out.below (Nat.le_refl _) (by omega))
  refine bodyPost_ret (v := lwV ad n cap) (results_cell_mid rfl _ _ w.heap.size (lwC ad n cap).toList _ rfl HR2.out Try.underlying29 rfl lw_sz) rfl ?_
  simp only [World.size_alloc] at hg
  exact ⟨ad, cap, rfl, g, by omega, by rw [HS2.out]; exact hgd, NF.out w1 W2 g ad cap w.heap.size HIN.out (by omega) HF2.out, hB⟩
set_option maxRecDepth 100000 in
set_option maxHeartbeats 8000000 in
theorem mkAsk (k : Int) (w : World) : Calls Try.prog 14 #[.slice none 0 0, .int .i64 k] w fun e w' => e = .returned (.int .i64 k) ∧ w' = w := by
  go_enter Try.func14, Try.ntmps14
  go_wp2
  go_loopw [1, 5] (fun t i wr => t = .int .i64 k ∧ i = .int .i64 0 ∧ wr = w) (fun _ _ _ => 0)
  case atStart => exact ⟨rfl, rfl, rfl⟩
  case round =>
    obtain ⟨rfl, rfl, rfl⟩ := hrel
    go_wp2
    go_ret
    exact ⟨rfl, rfl⟩
set_option maxRecDepth 100000 in
set_option maxHeartbeats 8000000 in
theorem hdAsk (k : Int) (w : World) : Calls Try.prog 16 #[.slice none 0 0, .int .i64 k] w fun e w' => e = .returned (.int .i64 k) ∧ w' = w := by
  go_enter Try.func16, Try.ntmps16
  go_wp2
  go_loopw [1, 5] (fun t i wr => t = .int .i64 k ∧ i = .int .i64 0 ∧ wr = w) (fun _ _ _ => 0)
  case atStart => exact ⟨rfl, rfl, rfl⟩
  case round =>
    obtain ⟨rfl, rfl, rfl⟩ := hrel
    go_wp2
    go_ret
    exact ⟨rfl, rfl⟩
set_option maxRecDepth 100000 in
set_option maxHeartbeats 8000000 in
theorem eqAsk (w : World) : Calls Try.prog 12 #[.slice none 0 0, .slice none 0 0] w fun e w' => e = .returned (.bool true) ∧ w' = w := by
  go_enter Try.func12, Try.ntmps12
  go_wp2
  go_loopw [5] (fun i wr => i = .int .i64 0 ∧ wr = w) (fun _ _ => 0)
  case atStart => exact ⟨rfl, rfl⟩
  case round =>
    obtain ⟨rfl, rfl⟩ := hrel
    go_wp2
    go_ret
    exact ⟨rfl, rfl⟩
set_option maxRecDepth 100000 in
set_option maxHeartbeats 8000000 in
theorem eqLw {n : Nat} (h5 : n ≤ 5) (ad ad2 : Option Addr) (cap cap2 : Nat) (w : World) (lo hi lo2 hi2 : Nat) (hhi : hi ≤ w.heap.size) (hhi2 : hi2 ≤ w.heap.size) (h1 : NwIn w lo hi n ad) (h2 : NwIn w lo2 hi2 n ad2) :
    Calls Try.prog 6 #[lwV ad n cap, lwV ad2 n cap2] w fun e w' => e = .returned (.bool true) ∧ Below w.heap.size w w' := by
  have hb0 : Below w.heap.size w ((w.alloc (.cells (lwC ad n cap) 29)).alloc (.cells (lwC ad2 n cap2) 29)) := (below_alloc _ _).alloc (by simp) _
  have HE := hid (eqRw_any (nwR n) (nwA ad cap) (nwA ad2 cap2) ((w.alloc (.cells (lwC ad n cap) 29)).alloc (.cells (lwC ad2 n cap2) 29)) lo hi lo2 hi2 (by simp; omega) (by simp; omega) (nwR_fit h5) ((nwR_in h1).below hb0 hhi) ((nwR_in h2).below hb0 hhi2))
  clear h1 h2
  go_enter Try.func6, Try.ntmps6
  go_wp2_with fail
  refine HE.out.mono ?_
  rintro e w1 ⟨rfl, hb1⟩
  have z1 := hb1.size
  simp only [World.size_alloc] at z1
  have hB : Below w.heap.size w w1 := hb0.trans (hb1.mono (by simp; omega))
  obtain ⟨_, _, _, p3, p4⟩ := holds5 (((holds_new w (lwC ad n cap) 29).below (below_alloc _ _) (by simp)).below hb1 (by simp; omega))
  obtain ⟨_, _, _, q3, q4⟩ := holds5 ((holds_new (w.alloc (.cells (lwC ad n cap) 29)) (lwC ad2 n cap2) 29).below hb1 (by simp))
  simp only [World.size_alloc] at q3 q4
  clear hb1 hb0 HE
  go_wp2_with (go_at_call 12; go_must (refine (eqAsk _).mono ?_; rintro e w9 ⟨rfl, h9⟩; rw [h9]; clear h9 w9))
  go_ret
  exact ⟨rfl, hB⟩
set_option maxRecDepth 100000 in
set_option maxHeartbeats 8000000 in
theorem markLw {a : Int} {n d : Nat} {Nw Mk : World → Nat → Option Addr → Nat → Prop} (hh : NwWays a n d Nw Mk) (w : World) (g : Nat) (ad : Option Addr) (cap : Nat) (hc : Nw w g ad cap) (hgs : g + d ≤ w.heap.size) :
    Calls Try.prog 7 #[lwV ad n cap, .int .i64 1] w fun e w' => e = .returned (.int .i64 (1 + 11 * n)) ∧ Mk w' g ad cap ∧ Fr g (g + d) w w' := by
  have HH := hid (hh.mark (w.alloc (.cells (lwC ad n cap) 29)) g ad cap (hh.nwB _ _ _ _ _ hc (below_alloc _ _)))
  have hneg : ¬ ((1 : Int) + 11 * n < 0) := by omega
  clear hh hc
  go_enter Try.func7, Try.ntmps7
  go_wp2_with fail
  refine HH.out.mono ?_
  clear HH
  rintro e w1 ⟨rfl, hm, hf⟩
  have z1 := hf.size
  simp only [World.size_alloc] at z1
  obtain ⟨_, _, _, _, p4⟩ := holds5 ((holds_new w (lwC ad n cap) 29).fr hf (by simp) (Or.inr hgs))
  have HF := hid ((Fr.of_below (below_alloc w _)).trans hf)
  have HM := hid hm
  clear hf hm
  go_wp2_with (go_at_call 14; go_must (refine (mkAsk _ _).mono ?_; rintro e w9 ⟨rfl, h9⟩; rw [h9]; clear h9 w9))
  go_ret
  exact ⟨rfl, HM.out, HF.out⟩
set_option maxRecDepth 100000 in
set_option maxHeartbeats 8000000 in
theorem heldLw {a : Int} {n d : Nat} {Nw Mk : World → Nat → Option Addr → Nat → Prop} (hh : NwWays a n d Nw Mk) (w : World) (g : Nat) (ad : Option Addr) (cap : Nat) (hc : Mk w g ad cap) (_hgs : g + d ≤ w.heap.size) :
    Calls Try.prog 8 #[lwV ad n cap, .int .i64 1] w fun e w' => e = .returned (.int .i64 (1 + 11 * n)) ∧ Below w.heap.size w w' := by
  have HH := hid (hh.held (w.alloc (.cells (lwC ad n cap) 29)) g ad cap (hh.mkB _ _ _ _ _ hc (below_alloc _ _)))
  have hneg : ¬ ((1 : Int) + 11 * n < 0) := by omega
  clear hh hc
  go_enter Try.func8, Try.ntmps8
  go_wp2_with fail
  refine HH.out.mono ?_
  clear HH
  rintro e w1 ⟨rfl, hf⟩
  have z1 := hf.size
  simp only [World.size_alloc] at z1
  obtain ⟨_, _, _, _, p4⟩ := holds5 ((holds_new w (lwC ad n cap) 29).below hf (by simp))
  have HF := hid ((below_alloc w _).trans (hf.mono (by simp)))
  clear hf 
  go_wp2_with (go_at_call 16; go_must (refine (hdAsk _ _).mono ?_; rintro e w9 ⟨rfl, h9⟩; rw [h9]; clear h9 w9))
  go_ret
  exact ⟨rfl, HF.out⟩
end Go.Proofs.Ytkcgfjnmkbbnoaa
