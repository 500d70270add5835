import Derived.Test.YtcmimbohmninkaaDoorLa
import Derived.Test.YtcmimbohmninkaaDoorLb
namespace Go.Proofs.YtcmimbohmninkaaDoor
open Go.RowKit
/-- a call -/
structure Bc where
  client : ByteArray
  num : Int
  wn : Nat
  ws : Nat → Wt
  rn : Nat
  rs : Nat → Wr
structure BcA where
  wa : Option Addr
  ra : Option Addr
  wc : Nat
  rc : Nat
abbrev bdC (c : Bc) (A : BcA) : Array Value := #[.slice A.wa c.wn A.wc, .slice A.ra c.rn A.rc]
abbrev bdV (c : Bc) (A : BcA) : Value := .agg #[.slice A.wa c.wn A.wc, .slice A.ra c.rn A.rc]
abbrev bcC (c : Bc) (A : BcA) : Array Value := #[.string c.client, .int .i64 c.num, .slice A.wa c.wn A.wc, .slice A.ra c.rn A.rc]
abbrev bcV (c : Bc) (A : BcA) : Value := .agg #[.string c.client, .int .i64 c.num, .slice A.wa c.wn A.wc, .slice A.ra c.rn A.rc]
structure BcIn (w : World) (lo hi : Nat) (c : Bc) (A : BcA) : Prop where
  ws : WtsIn w lo hi A.wa c.wn c.ws
  rs : WrsIn w lo hi A.ra c.rn c.rs
structure BcFit (c : Bc) : Prop where
  cl : (c.client.size : Int) ≤ 140737488355328
  wn : (c.wn : Int) ≤ 8796093022208
  ws : ∀ i, i < c.wn → WtFit (c.ws i)
  rn : (c.rn : Int) ≤ 8796093022208
  rs : ∀ i, i < c.rn → WrFit (c.rs i)
structure BcSmall (c : Bc) : Prop where
  wn : (c.wn : Int) ≤ 1048576
  rn : (c.rn : Int) ≤ 1048576
theorem BcIn.below {w w' : World} {B lo hi : Nat} {c : Bc} {A : BcA} (h : BcIn w lo hi c A) (hb : Below B w w') (hB : hi ≤ B) : BcIn w' lo hi c A := ⟨h.ws.below hb hB, h.rs.below hb hB⟩
theorem BcIn.mono {w : World} {lo hi lo2 hi2 : Nat} {c : Bc} {A : BcA} (h : BcIn w lo hi c A) (h1 : lo2 ≤ lo) (h2 : hi ≤ hi2) : BcIn w lo2 hi2 c A := ⟨h.ws.mono h1 h2, h.rs.mono h1 h2⟩
def szBd (c : Bc) : Nat := szWts c.wn c.ws + szWrs c.rn c.rs
def szBc (c : Bc) : Nat := c.client.size + szBd c
theorem holds_two {w : World} {b : Nat} {a0 a1 : Value} (h : Holds w b #[a0, a1]) : w.cell? ⟨b, 0, none⟩ = some a0 ∧ w.cell? ⟨b, 1, none⟩ = some a1 := ⟨h 0, h 1⟩
theorem holds_four {w : World} {b : Nat} {a0 a1 a2 a3 : Value} (h : Holds w b #[a0, a1, a2, a3]) : w.cell? ⟨b, 0, none⟩ = some a0 ∧ w.cell? ⟨b, 1, none⟩ = some a1 ∧ w.cell? ⟨b, 2, none⟩ = some a2 ∧ w.cell? ⟨b, 3, none⟩ = some a3 := ⟨h 0, h 1, h 2, h 3⟩
set_option maxRecDepth 100000 in
set_option maxHeartbeats 1000000 in
theorem szBd_any (c : Bc) (A : BcA) (left : Int) (w : World) (h0 : 0 ≤ left) (h1 : left ≤ 1048576) (lo hi : Nat) (hhi : hi ≤ w.heap.size) (hf : BcFit c) (hc : BcIn w lo hi c A) :
    Calls Tryd.prog 9 #[bdV c A, .int .i64 left] w fun e w' => e = .returned (.int .i64 (szOut left (szBd c))) ∧ Below w.heap.size w w' := by
  have hB0 := below_alloc w (.cells (bdC c A) 25)
  have H0 := hid (holds_new w (bdC c A) 25)
  have hz0 : w.heap.size < (w.alloc (.cells (bdC c A) 25)).heap.size := by simp
  obtain ⟨q0, q1⟩ := holds_two H0.out
  have hS1 := hid (szWts_any c.wn c.ws A.wa A.wc left (w.alloc (.cells (bdC c A) 25)) lo hi (Nat.le_trans hhi hB0.size) hf.wn h0 h1 hf.ws (hc.below hB0 hhi).ws)
  have hS2 := hid (fun (l : Int) (W : World) (hB : Below w.heap.size w W) (g0 : 0 ≤ l) (g1 : l ≤ 1048576) => szWrs_any c.rn c.rs A.ra A.rc l W lo hi (Nat.le_trans hhi hB.size) hf.rn g0 g1 hf.rs (hc.below hB hhi).rs)
  have hE : szBd c = szWts c.wn c.ws + szWrs c.rn c.rs := rfl
  rw [hE]
  clear hf hc hE
  generalize szWts c.wn c.ws = a at *
  generalize szWrs c.rn c.rs = b at *
  by_cases ha : left < (a : Int)
  · rw [szOut_no ha] at hS1
    go_enter Tryd.func9, Tryd.ntmps9
    go_wp2_with (go_at_call 16; go_must (refine hS1.out.mono ?_; rintro e w1 ⟨rfl, hb1⟩))
    go_ret
    exact ⟨ret_int (szOut_no (by omega)).symm, hB0.trans (hb1.mono hB0.size)⟩
  · rw [szOut_yes (by omega)] at hS1
    by_cases hb : left - (a : Int) < (b : Int)
    · go_enter Tryd.func9, Tryd.ntmps9
      go_wp2_with (first | (go_at_call 16; go_must (refine hS1.out.mono ?_; rintro e w1 ⟨rfl, hb1⟩; obtain ⟨p0, p1⟩ := holds_two (H0.out.below hb1 hz0); have hB1 : Below w.heap.size w w1 := hB0.trans (hb1.mono hB0.size))) | (go_at_call 17; go_must (refine (hS2.out _ w1 hB1 (by omega) (by omega)).mono ?_; rintro e w2 ⟨rfl, hb2⟩; rw [szOut_no hb])))
      go_ret
      exact ⟨ret_int (szOut_no (by omega)).symm, hB1.trans (hb2.mono hB1.size)⟩
    · go_enter Tryd.func9, Tryd.ntmps9
      go_wp2_with (first | (go_at_call 16; go_must (refine hS1.out.mono ?_; rintro e w1 ⟨rfl, hb1⟩; obtain ⟨p0, p1⟩ := holds_two (H0.out.below hb1 hz0); have hB1 : Below w.heap.size w w1 := hB0.trans (hb1.mono hB0.size))) | (go_at_call 17; go_must (refine (hS2.out _ w1 hB1 (by omega) (by omega)).mono ?_; rintro e w2 ⟨rfl, hb2⟩; rw [szOut_yes (by omega)])))
      go_ret
      exact ⟨ret_int ((szOut_yes (by omega)).trans (by omega)).symm, hB1.trans (hb2.mono hB1.size)⟩
set_option maxRecDepth 100000 in
set_option maxHeartbeats 1000000 in
theorem szBc_any (c : Bc) (A : BcA) (left : Int) (w : World) (h0 : 0 ≤ left) (h1 : left ≤ 1048576) (lo hi : Nat) (hhi : hi ≤ w.heap.size) (hf : BcFit c) (hc : BcIn w lo hi c A) :
    Calls Tryd.prog 4 #[bcV c A, .int .i64 left] w fun e w' => e = .returned (.int .i64 (szOut left (szBc c))) ∧ Below w.heap.size w w' := by
  have hB0 := below_alloc w (.cells (bcC c A) 27)
  have hS := hid (fun (l : Int) (g0 : 0 ≤ l) (g1 : l ≤ 1048576) => szBd_any c A l (w.alloc (.cells (bcC c A) 27)) g0 g1 lo hi (Nat.le_trans hhi hB0.size) hf (hc.below hB0 hhi))
  have hcl := hf.cl
  have hE : szBc c = c.client.size + szBd c := rfl
  rw [hE]
  clear hf hc hE
  generalize szBd c = b at *
  by_cases ha : left < (c.client.size : Int)
  · go_enter Tryd.func4, Tryd.ntmps4
    go_wp2
    go_ret
    exact ⟨ret_int (szOut_no (by omega)).symm, hB0⟩
  · by_cases hb : left - (c.client.size : Int) < (b : Int)
    · go_enter Tryd.func4, Tryd.ntmps4
      go_wp2_with (go_at_call 9; go_must (refine (hS.out _ (by omega) (by omega)).mono ?_; rintro e w1 ⟨rfl, hb1⟩; rw [szOut_no hb]))
      go_ret
      exact ⟨ret_int (szOut_no (by omega)).symm, hB0.trans (hb1.mono hB0.size)⟩
    · go_enter Tryd.func4, Tryd.ntmps4
      go_wp2_with (go_at_call 9; go_must (refine (hS.out _ (by omega) (by omega)).mono ?_; rintro e w1 ⟨rfl, hb1⟩; rw [szOut_yes (by omega)]))
      go_ret
      exact ⟨ret_int ((szOut_yes (by omega)).trans (by omega)).symm, hB0.trans (hb1.mono hB0.size)⟩
theorem below3 (w : World) (o1 o2 o3 : Obj) : Below w.heap.size w (((w.alloc o1).alloc o2).alloc o3) := (((Below.refl _ _).alloc (Nat.le_refl _) _).alloc (by simp) _).alloc (by simp; omega) _
set_option maxRecDepth 100000 in
set_option maxHeartbeats 2000000 in
theorem toBd_any (c : Bc) (A : BcA) (w : World) (lo hi : Nat) (hhi : hi ≤ w.heap.size) (hm : BcSmall c) (hc : BcIn w lo hi c A) :
    Calls Tryd.prog 13 #[bdV c A] w fun e w' => ∃ A', e = .returned (bdV c A') ∧ BcIn w' w.heap.size w'.heap.size c A' ∧ Below w.heap.size w w' := by
  have hm1 := hm.wn
  have hm2 := hm.rn
  go_enter Tryd.func13, Tryd.ntmps13
  go_wp2_with fail
  refine (toWts_any c.wn c.ws A.wa A.wc _ lo hi (by simp; omega) (by omega) (hc.ws.below (below3 w _ _ _) hhi)).mono ?_
  rintro e w1 ⟨rfl, hown, hb1⟩
  have hbW : Below w.heap.size w w1 := (below3 w _ _ _).trans (hb1.mono (by simp; omega))
  have hz : w.heap.size + 3 ≤ w1.heap.size := by have := hb1.size; simp at this; omega
  obtain ⟨hcc, hff⟩ := bcell hb1
  simp only [World.size_alloc] at hcc hff hown
  obtain ⟨U, hU⟩ : ∃ U, w1.setCell ⟨w.heap.size + 1 + 1, 0, none⟩ (.slice (some ⟨w.heap.size + 1 + 1 + 1, 0, none⟩) c.wn c.wn) = U := ⟨_, rfl⟩
  have a0 : w1.cell? ⟨w.heap.size, 1, none⟩ = some (.slice A.ra c.rn A.rc) := by rw [hcc _ _ (by omega)]; simp [go_sem]
  have a1 : w1.cell? ⟨w.heap.size + 1 + 1, 0, none⟩ = some (.slice none 0 0) := by rw [hcc _ _ (by omega)]; simp [go_sem]
  have a2 : w1.cell? ⟨w.heap.size + 1 + 1, 1, none⟩ = some (.slice none 0 0) := by rw [hcc _ _ (by omega)]; simp [go_sem]
  have a3 : w1.cell? ⟨w.heap.size + 1, 0, none⟩ = some (.slice none 0 0) := by rw [hcc _ _ (by omega)]; simp [go_sem]
  have a4 : w1.cell? ⟨w.heap.size + 1, 1, none⟩ = some (.slice none 0 0) := by rw [hcc _ _ (by omega)]; simp [go_sem]
  have g0 : ∀ o, w1.frozen? ⟨w.heap.size + 1 + 1, o, none⟩ = false := fun o => by rw [hff _ _ (by omega)]; simp [go_sem]
  have g1 : ∀ o, w1.frozen? ⟨w.heap.size + 1, o, none⟩ = false := fun o => by rw [hff _ _ (by omega)]; simp [go_sem]
  have hFU : Fr (w.heap.size + 1 + 1) (w.heap.size + 1 + 1 + 1) w1 U := by rw [← hU]; exact (Fr.refl _ _ _).setCell (by simp) (by simp) _
  have b0 : U.cell? ⟨w.heap.size, 1, none⟩ = some (.slice A.ra c.rn A.rc) := (hFU.cell (p := ⟨w.heap.size, 1, none⟩) (by show w.heap.size < _; omega) (by show w.heap.size < _ ∨ _ ≤ w.heap.size; omega)).trans a0
  have b1 : U.cell? ⟨w.heap.size + 1 + 1, 0, none⟩ = some (.slice (some ⟨w.heap.size + 1 + 1 + 1, 0, none⟩) c.wn c.wn) := by rw [← hU]; simp [go_sem, a1]
  have b2 : U.cell? ⟨w.heap.size + 1 + 1, 1, none⟩ = some (.slice none 0 0) := by rw [← hU]; simp [go_sem, a2]
  have b3 : U.cell? ⟨w.heap.size + 1, 0, none⟩ = some (.slice none 0 0) := (hFU.cell (p := ⟨w.heap.size + 1, 0, none⟩) (by show w.heap.size + 1 < _; omega) (by show w.heap.size + 1 < _ ∨ _ ≤ w.heap.size + 1; omega)).trans a3
  have b4 : U.cell? ⟨w.heap.size + 1, 1, none⟩ = some (.slice none 0 0) := (hFU.cell (p := ⟨w.heap.size + 1, 1, none⟩) (by show w.heap.size + 1 < _; omega) (by show w.heap.size + 1 < _ ∨ _ ≤ w.heap.size + 1; omega)).trans a4
  have k0 : ∀ o, U.frozen? ⟨w.heap.size + 1 + 1, o, none⟩ = false := fun o => by rw [← hU]; simp [go_sem, g0]
  have k1 : ∀ o, U.frozen? ⟨w.heap.size + 1, o, none⟩ = false := fun o => (hFU.frozen (p := ⟨w.heap.size + 1, o, none⟩) (by show w.heap.size + 1 < _; omega) (by show w.heap.size + 1 < _ ∨ _ ≤ w.heap.size + 1; omega)).trans (g1 o)
  have hUz : U.heap.size = w1.heap.size := by rw [← hU]; simp
  have hBU : Below w.heap.size w U := hbW.trans (hFU.below (by omega) (by omega))
  have HO := hid (hown.fr hFU (by omega))
  have HU := hid hU
  have a1f := g0 0
  clear hcc hff hown hb1 a2 a3 a4 g1 hU
  go_wp2_with fail
  rw [HU.out]
  clear a0 a1 a1f g0 HU
  refine (toWrs_any c.rn c.rs A.ra A.rc U lo hi (Nat.le_trans hhi hBU.size) (by omega) (hc.rs.below hBU hhi)).mono ?_
  rintro e w2 ⟨rfl, hown2, hb2⟩
  have c1 := (hb2.cell (p := ⟨w.heap.size + 1 + 1, 0, none⟩) (by show w.heap.size + 1 + 1 < _; omega)).trans b1
  have c2 := (hb2.cell (p := ⟨w.heap.size + 1 + 1, 1, none⟩) (by show w.heap.size + 1 + 1 < _; omega)).trans b2
  have c3 := (hb2.cell (p := ⟨w.heap.size + 1, 0, none⟩) (by show w.heap.size + 1 < _; omega)).trans b3
  have c4 := (hb2.cell (p := ⟨w.heap.size + 1, 1, none⟩) (by show w.heap.size + 1 < _; omega)).trans b4
  have l0 : ∀ o, w2.frozen? ⟨w.heap.size + 1 + 1, o, none⟩ = false := fun o => (hb2.frozen (p := ⟨w.heap.size + 1 + 1, o, none⟩) (by show w.heap.size + 1 + 1 < _; omega)).trans (k0 o)
  have l1 : ∀ o, w2.frozen? ⟨w.heap.size + 1, o, none⟩ = false := fun o => (hb2.frozen (p := ⟨w.heap.size + 1, o, none⟩) (by show w.heap.size + 1 < _; omega)).trans (k1 o)
  have hz2 : w.heap.size + 3 ≤ w2.heap.size := by have := hb2.size; omega
  have hB2 : Below w.heap.size w w2 := hBU.trans (hb2.mono (by omega))
  have HO1 := hid (HO.out.fr (Fr.of_below (lo := 0) (hi := 0) hb2) (Or.inr (Nat.zero_le _)))
  have HO2 := hid hown2
  clear b0 b1 b2 b3 b4 k0 k1 hown2 HO
  have hu2 := hb2.size
  clear hb2
  go_wp2
  refine bodyPost_ret (v := bdV c ⟨some ⟨w.heap.size + 1 + 1 + 1, 0, none⟩, some ⟨U.heap.size, 0, none⟩, c.wn, c.rn⟩) (by simp [results, Tryd.results13, go_sem, c3, c4]) rfl ⟨_, rfl, ⟨?_, ?_⟩, ?_⟩
  · simp only [World.size_setCell]
    refine WtsOwnAt.isIn (HO1.out.fr (lo2 := w.heap.size) (hi2 := w.heap.size + 3) ?_ (by omega)) (by omega) (by have := HO1.out.room.lt; omega)
    iterate 3 refine Fr.setCell ?_ (by simp; try omega) (by simp; try omega) _
    exact Fr.refl _ _ _
  · simp only [World.size_setCell]
    refine WrsOwnAt.isIn (HO2.out.fr (lo2 := w.heap.size) (hi2 := w.heap.size + 3) ?_ (by omega)) (by omega) (by have := HO2.out.room.lt; omega)
    iterate 3 refine Fr.setCell ?_ (by simp; try omega) (by simp; try omega) _
    exact Fr.refl _ _ _
  · refine hB2.trans (Fr.below (lo := w.heap.size) (hi := w.heap.size + 3) ?_ (Nat.le_refl _) hB2.size)
    iterate 3 refine Fr.setCell ?_ (by simp; try omega) (by simp; try omega) _
    exact Fr.refl _ _ _
set_option maxRecDepth 100000 in
set_option maxHeartbeats 2000000 in
theorem toBc_any (c : Bc) (A : BcA) (w : World) (lo hi : Nat) (hhi : hi ≤ w.heap.size) (hm : BcSmall c) (hc : BcIn w lo hi c A) :
    Calls Tryd.prog 6 #[bcV c A] w fun e w' => ∃ A', e = .returned (bcV c A') ∧ BcIn w' w.heap.size w'.heap.size c A' ∧ Below w.heap.size w w' := by
  go_enter Tryd.func6, Tryd.ntmps6
  go_wp2_with fail
  refine (toBd_any c A _ lo hi (by simp; omega) hm (hc.below (B := w.heap.size) ?hb hhi)).mono ?_
  case hb => exact below3 w _ _ _
  rintro e w1 ⟨A', rfl, hin, hb1⟩
  have hbW : Below w.heap.size w w1 := (below3 w _ _ _).trans (hb1.mono (by simp; omega))
  have hz : w.heap.size + 3 ≤ w1.heap.size := by have := hb1.size; simp at this; omega
  obtain ⟨hcc, hff⟩ := bcell hb1
  simp only [World.size_alloc] at hcc hff hin
  have HI := hid hin
  clear hb1 hin hc
  go_wp2
  refine bodyPost_ret (v := bcV c A') (by simp [results, Tryd.results6, go_sem, hcc]) rfl ⟨_, rfl, ?_, ?_⟩
  · simp only [World.size_setCell]
    have hF : ∀ X : World, Fr w.heap.size (w.heap.size + 3) w1 X → X.heap.size = w1.heap.size → BcIn X w.heap.size w1.heap.size c A' := fun X hF hs => by
      refine ⟨fun i hi => ?_, fun i hi => ?_⟩
      · obtain ⟨b, off, e1, e2, e3, e4⟩ := HI.out.ws i hi
        have hcell : ∀ j, X.cell? ⟨b, j, none⟩ = w1.cell? ⟨b, j, none⟩ := fun j => hF.cell (p := ⟨b, j, none⟩) (by show b < _; omega) (by show b < _ ∨ _ ≤ b; omega)
        exact ⟨b, off, e1, by omega, e3, ⟨(hcell _).trans e4.c0, (hcell _).trans e4.c1, (hcell _).trans e4.c2⟩⟩
      · obtain ⟨b, off, e1, e2, e3, e4⟩ := HI.out.rs i hi
        have hcell : ∀ j, X.cell? ⟨b, j, none⟩ = w1.cell? ⟨b, j, none⟩ := fun j => hF.cell (p := ⟨b, j, none⟩) (by show b < _; omega) (by show b < _ ∨ _ ≤ b; omega)
        exact ⟨b, off, e1, by omega, e3, ⟨(hcell _).trans e4.c0, (hcell _).trans e4.c1, (hcell _).trans e4.c2, (hcell _).trans e4.c3, (hcell _).trans e4.c4, (hcell _).trans e4.c5⟩⟩
    refine hF _ ?_ (by simp)
    iterate 6 refine Fr.setCell ?_ (by simp; try omega) (by simp; try omega) _
    exact Fr.refl _ _ _
  · refine hbW.trans (Fr.below (lo := w.heap.size) (hi := w.heap.size + 3) ?_ (Nat.le_refl _) hbW.size)
    iterate 6 refine Fr.setCell ?_ (by simp; try omega) (by simp; try omega) _
    exact Fr.refl _ _ _
set_option maxRecDepth 100000 in
set_option maxHeartbeats 1000000 in
theorem eqBd_any (c : Bc) (A A2 : BcA) (w : World) (lo hi lo2 hi2 : Nat) (hh : hi ≤ w.heap.size) (hh2 : hi2 ≤ w.heap.size) (hm : BcSmall c) (hc : BcIn w lo hi c A) (hc2 : BcIn w lo2 hi2 c A2) :
    Calls Tryd.prog 15 #[bdV c A, bdV c A2] w fun e w' => e = .returned (.bool true) ∧ Below w.heap.size w w' := by
  have hm1 := hm.wn
  have hm2 := hm.rn
  have hB0 : Below w.heap.size w ((w.alloc (.cells (bdC c A) 33)).alloc (.cells (bdC c A2) 33)) := (below_alloc _ _).alloc (by simp) _
  obtain ⟨W, hW⟩ : ∃ W, (w.alloc (.cells (bdC c A) 33)).alloc (.cells (bdC c A2) 33) = W := ⟨_, rfl⟩
  rw [hW] at hB0
  have p0 : W.cell? ⟨w.heap.size, 1, none⟩ = some (.slice A.ra c.rn A.rc) := by rw [← hW]; simp
  have p1 : W.cell? ⟨w.heap.size + 1, 1, none⟩ = some (.slice A2.ra c.rn A2.rc) := by rw [← hW]; simp
  have hz : w.heap.size + 2 ≤ W.heap.size := by rw [← hW]; simp
  have HW := hid hW
  have P0 := hid p0
  have P1 := hid p1
  clear hW p0 p1
  go_enter Tryd.func15, Tryd.ntmps15
  go_wp2_with fail
  rw [HW.out]
  refine (eqWts_any c.wn c.ws A.wa A2.wa A.wc A2.wc W lo hi lo2 hi2 (Nat.le_trans hh hB0.size) (Nat.le_trans hh2 hB0.size) (by omega) (hc.ws.below hB0 hh) (hc2.ws.below hB0 hh2)).mono ?_
  rintro e w1 ⟨rfl, hb1⟩
  have hB1 : Below w.heap.size w w1 := hB0.trans (hb1.mono hB0.size)
  have r0 := (hb1.cell (p := ⟨w.heap.size, 1, none⟩) (by show w.heap.size < _; omega)).trans P0.out
  have r1 := (hb1.cell (p := ⟨w.heap.size + 1, 1, none⟩) (by show w.heap.size + 1 < _; omega)).trans P1.out
  clear hb1 HW P0 P1
  go_wp2_with fail
  refine (eqWrs_any c.rn c.rs A.ra A2.ra A.rc A2.rc w1 lo hi lo2 hi2 (Nat.le_trans hh hB1.size) (Nat.le_trans hh2 hB1.size) (by omega) (hc.rs.below hB1 hh) (hc2.rs.below hB1 hh2)).mono ?_
  rintro e w2 ⟨rfl, hb2⟩
  go_wp2
  go_ret
  exact ⟨rfl, hB1.trans (hb2.mono hB1.size)⟩
set_option maxRecDepth 100000 in
set_option maxHeartbeats 1000000 in
theorem eqBc_any (c : Bc) (A A2 : BcA) (w : World) (lo hi lo2 hi2 : Nat) (hh : hi ≤ w.heap.size) (hh2 : hi2 ≤ w.heap.size) (hm : BcSmall c) (hc : BcIn w lo hi c A) (hc2 : BcIn w lo2 hi2 c A2) :
    Calls Tryd.prog 8 #[bcV c A, bcV c A2] w fun e w' => e = .returned (.bool true) ∧ Below w.heap.size w w' := by
  have hB0 : Below w.heap.size w ((w.alloc (.cells (bcC c A) 35)).alloc (.cells (bcC c A2) 35)) := (below_alloc _ _).alloc (by simp) _
  go_enter Tryd.func8, Tryd.ntmps8
  go_wp2_with fail
  refine (eqBd_any c A A2 _ lo hi lo2 hi2 (Nat.le_trans hh hB0.size) (Nat.le_trans hh2 hB0.size) hm (hc.below hB0 hh) (hc2.below hB0 hh2)).mono ?_
  rintro e w1 ⟨rfl, hb1⟩
  go_wp2
  go_ret
  exact ⟨rfl, hB0.trans (hb1.mono hB0.size)⟩
end Go.Proofs.YtcmimbohmninkaaDoor
