import Derived.Test.YtjepponnhieocaaGc
import Derived.Test.YtjepponnhieocaaGd
namespace Go.Proofs.Ytjepponnhieocaa
open Go.RowKit
abbrev rwC (v : Rw) (V : RwA) : Array Value := #[.slice V.ra v.n V.rc, .slice V.fa v.fn V.fc, .slice V.ga v.gn V.gc]
theorem holds3 {W : World} {B : Nat} {v0 v1 v2 : Value} (h : Holds W B #[v0, v1, v2]) : W.cell? ⟨B, 0, none⟩ = some v0 ∧ W.cell? ⟨B, 1, none⟩ = some v1 ∧ W.cell? ⟨B, 2, none⟩ = some v2 := ⟨h 0, h 1, h 2⟩
theorem h3set0 {W : World} {B : Nat} {v0 v1 v2 : Value} (h : Holds W B #[v0, v1, v2]) (v : Value) : Holds (W.setCell ⟨B, 0, none⟩ v) B #[v, v1, v2] := Holds.set (i := 0) h (by simp) v
theorem h3set1 {W : World} {B : Nat} {v0 v1 v2 : Value} (h : Holds W B #[v0, v1, v2]) (v : Value) : Holds (W.setCell ⟨B, 1, none⟩ v) B #[v0, v, v2] := Holds.set (i := 1) h (by simp) v
theorem h3set2 {W : World} {B : Nat} {v0 v1 v2 : Value} (h : Holds W B #[v0, v1, v2]) (v : Value) : Holds (W.setCell ⟨B, 2, none⟩ v) B #[v0, v1, v] := Holds.set (i := 2) h (by simp) v
def szRw (v : Rw) : Nat := szRcs v.n v.x + szMss v.fn v.fs + szSls v.gn v.gs
set_option maxRecDepth 100000 in
set_option maxHeartbeats 2000000 in
theorem szRw_any (v : Rw) (V : RwA) (left : Int) (w : World) (n0 : 0 ≤ left) (m0 : left ≤ 1048576) (lo hi : Nat) (hhi : hi ≤ w.heap.size) (hf : RwFit v) (hc : RwIn w lo hi v V) :
    Calls Try.prog 13 #[rwV v V, .int .i64 left] w fun e w' => e = .returned (.int .i64 (szOut left (szRw v))) ∧ Below w.heap.size w w' := by
  have HF := hid hf
  have HI := hid hc
  obtain ⟨S, hS⟩ : ∃ S, szRw v = S := ⟨_, rfl⟩
  have HSZ := hid (show S = szRcs v.n v.x + szMss v.fn v.fs + szSls v.gn v.gs by rw [← hS]; rfl)
  rw [hS]
  clear hf hc hS
  have hB0 := below_alloc w (.cells (rwC v V) 35)
  have H0 := holds_new w (rwC v V) 35
  have hz0 : w.heap.size < (w.alloc (.cells (rwC v V) 35)).heap.size := by simp
  go_enter Try.func13, Try.ntmps13
  obtain ⟨l1, hl1⟩ : ∃ l, szOut left (szRcs v.n v.x) = l := ⟨_, rfl⟩
  have c1 := szRcs_any v.n v.x V.A V.ra V.rc left (w.alloc (.cells (rwC v V) 35)) lo hi (Nat.le_trans hhi hB0.size) HF.out.n n0 m0 HF.out.x (HI.out.below hB0 hhi).rs
  rw [hl1] at c1
  have HL1 := hid hl1
  clear hl1
  go_wp2_with fail
  refine c1.mono ?_
  clear c1
  rintro e w1 ⟨rfl, hb1⟩
  have hB1 : Below w.heap.size w w1 := hB0.trans (hb1.mono hB0.size)
  have H1 : Holds w1 w.heap.size (rwC v V) := H0.below hb1 hz0
  have hz1 : w.heap.size < w1.heap.size := Nat.lt_of_lt_of_le hz0 hb1.size
  clear hb1 H0
  by_cases n1 : l1 < 0
  · have G : left < (szRcs v.n v.x : Nat) := szOut_lt (by rw [HL1.out]; exact n1)
    clear H1
    go_wp2
    go_ret
    exact ⟨ret_int (szOut_no (by have := HSZ.out; omega)).symm, hB1⟩
  have G1 : Hid ((((szRcs v.n v.x : Nat) : Int) ≤ left) ∧ l1 = left - (szRcs v.n v.x : Nat)) := by
    have g := szOut_ge (l := left) (s := szRcs v.n v.x) (by rw [HL1.out]; omega)
    rw [HL1.out] at g
    exact g
  have n1 : 0 ≤ l1 := by omega
  have m1 : l1 ≤ 1048576 := by have := G1.out; omega
  obtain ⟨l2, hl2⟩ : ∃ l, szOut l1 (szMss v.fn v.fs) = l := ⟨_, rfl⟩
  have c2 := szMss_any v.fn v.fs V.fa V.fc l1 w1 lo hi (Nat.le_trans hhi hB1.size) HF.out.fn n1 m1 HF.out.fs (HI.out.below hB1 hhi).fs
  rw [hl2] at c2
  have HL2 := hid hl2
  clear hl2
  obtain ⟨p0, p1, p2⟩ := holds3 H1
  go_wp2_with fail
  refine c2.mono ?_
  clear c2
  rintro e w2 ⟨rfl, hb2⟩
  clear p0 p1 p2
  have hB2 : Below w.heap.size w w2 := hB1.trans (hb2.mono hB1.size)
  have H2 : Holds w2 w.heap.size (rwC v V) := H1.below hb2 hz1
  have hz2 : w.heap.size < w2.heap.size := Nat.lt_of_lt_of_le hz1 hb2.size
  clear hb2 H1
  by_cases n2 : l2 < 0
  · have G : l1 < (szMss v.fn v.fs : Nat) := szOut_lt (by rw [HL2.out]; exact n2)
    clear H2
    go_wp2
    go_ret
    exact ⟨ret_int (szOut_no (by have := HSZ.out; have := G1.out; omega)).symm, hB2⟩
  have G2 : Hid ((((szMss v.fn v.fs : Nat) : Int) ≤ l1) ∧ l2 = l1 - (szMss v.fn v.fs : Nat)) := by
    have g := szOut_ge (l := l1) (s := szMss v.fn v.fs) (by rw [HL2.out]; omega)
    rw [HL2.out] at g
    exact g
  have n2 : 0 ≤ l2 := by omega
  have m2 : l2 ≤ 1048576 := by have := G2.out; omega
  obtain ⟨l3, hl3⟩ : ∃ l, szOut l2 (szSls v.gn v.gs) = l := ⟨_, rfl⟩
  have c3 := szFxs_any v.gn v.gs V.ga V.gc l2 w2 lo hi (Nat.le_trans hhi hB2.size) HF.out.gn n2 m2 HF.out.gs (HI.out.below hB2 hhi).gs
  rw [hl3] at c3
  have HL3 := hid hl3
  clear hl3
  obtain ⟨p0, p1, p2⟩ := holds3 H2
  go_wp2_with fail
  refine c3.mono ?_
  clear c3
  rintro e w3 ⟨rfl, hb3⟩
  clear p0 p1 p2
  have hB3 : Below w.heap.size w w3 := hB2.trans (hb3.mono hB2.size)
  have H3 : Holds w3 w.heap.size (rwC v V) := H2.below hb3 hz2
  have hz3 : w.heap.size < w3.heap.size := Nat.lt_of_lt_of_le hz2 hb3.size
  clear hb3 H2
  by_cases n3 : l3 < 0
  · have G : l2 < (szSls v.gn v.gs : Nat) := szOut_lt (by rw [HL3.out]; exact n3)
    clear H3
    go_wp2
    go_ret
    exact ⟨ret_int (szOut_no (by have := HSZ.out; have := G1.out; have := G2.out; omega)).symm, hB3⟩
  have G3 : Hid ((((szSls v.gn v.gs : Nat) : Int) ≤ l2) ∧ l3 = l2 - (szSls v.gn v.gs : Nat)) := by
    have g := szOut_ge (l := l2) (s := szSls v.gn v.gs) (by rw [HL3.out]; omega)
    rw [HL3.out] at g
    exact g
  have n3 : 0 ≤ l3 := by omega
  have m3 : l3 ≤ 1048576 := by have := G3.out; omega
  clear H3
  go_wp2
  go_ret
  refine ⟨ret_int ?_, hB3⟩
  have := HSZ.out; have := G1.out; have := G2.out; have := G3.out
  rw [szOut_yes (by omega)]
  omega
set_option maxRecDepth 100000 in
set_option maxHeartbeats 2000000 in
theorem eqRw_any (v : Rw) (V V2 : RwA) (w : World) (lo hi lo2 hi2 : Nat) (hhi : hi ≤ w.heap.size) (hhi2 : hi2 ≤ w.heap.size) (hf : RwFit v) (hc : RwIn w lo hi v V) (hc2 : RwIn w lo2 hi2 v V2) :
    Calls Try.prog 10 #[rwV v V, rwV v V2] w fun e w' => e = .returned (.bool true) ∧ Below w.heap.size w w' := by
  have HF := hid hf
  have HI := hid hc
  have HJ := hid hc2
  clear hf hc hc2
  have hB0 : Below w.heap.size w ((w.alloc (.cells (rwC v V) 26)).alloc (.cells (rwC v V2) 26)) := (below_alloc _ _).alloc (by simp) _
  have H0 : Holds ((w.alloc (.cells (rwC v V) 26)).alloc (.cells (rwC v V2) 26)) w.heap.size (rwC v V) := (holds_new w (rwC v V) 26).below (below_alloc _ _) (by simp)
  have K0 : Holds ((w.alloc (.cells (rwC v V) 26)).alloc (.cells (rwC v V2) 26)) (w.heap.size + 1) (rwC v V2) := by
    have := holds_new (w.alloc (.cells (rwC v V) 26)) (rwC v V2) 26
    rw [World.size_alloc] at this
    exact this
  have hz0 : w.heap.size + 1 < ((w.alloc (.cells (rwC v V) 26)).alloc (.cells (rwC v V2) 26)).heap.size := by simp
  go_enter Try.func10, Try.ntmps10
  have c1 := eqRcs_any v.n v.x V.A V2.A V.ra V2.ra V.rc V2.rc ((w.alloc (.cells (rwC v V) 26)).alloc (.cells (rwC v V2) 26)) lo hi lo2 hi2 (Nat.le_trans hhi hB0.size) (Nat.le_trans hhi2 hB0.size) (by have := HF.out.n; omega) HF.out.x (HI.out.below hB0 hhi).rs (HJ.out.below hB0 hhi2).rs
  go_wp2_with fail
  refine c1.mono ?_
  clear c1
  rintro e w1 ⟨rfl, hb1⟩
  have hB1 : Below w.heap.size w w1 := hB0.trans (hb1.mono hB0.size)
  have H1 : Holds w1 w.heap.size (rwC v V) := H0.below hb1 (Nat.lt_of_succ_lt hz0)
  have K1 : Holds w1 (w.heap.size + 1) (rwC v V2) := K0.below hb1 hz0
  have hz1 : w.heap.size + 1 < w1.heap.size := Nat.lt_of_lt_of_le hz0 hb1.size
  clear hb1 H0 K0
  have c2 := eqMss_any v.fn v.fs V.fa V2.fa V.fc V2.fc w1 lo hi lo2 hi2 (Nat.le_trans hhi hB1.size) (Nat.le_trans hhi2 hB1.size) (by have := HF.out.fn; omega) (fun i h => by have := (HF.out.fs i h).n; omega) (HI.out.below hB1 hhi).fs (HJ.out.below hB1 hhi2).fs
  obtain ⟨p0, p1, p2⟩ := holds3 H1
  obtain ⟨q0, q1, q2⟩ := holds3 K1
  go_wp2_with fail
  refine c2.mono ?_
  clear c2
  rintro e w2 ⟨rfl, hb2⟩
  clear p0 p1 p2 q0 q1 q2
  have hB2 : Below w.heap.size w w2 := hB1.trans (hb2.mono hB1.size)
  have H2 : Holds w2 w.heap.size (rwC v V) := H1.below hb2 (Nat.lt_of_succ_lt hz1)
  have K2 : Holds w2 (w.heap.size + 1) (rwC v V2) := K1.below hb2 hz1
  have hz2 : w.heap.size + 1 < w2.heap.size := Nat.lt_of_lt_of_le hz1 hb2.size
  clear hb2 H1 K1
  have c3 := eqFxs_any v.gn v.gs V.ga V2.ga V.gc V2.gc w2 lo hi lo2 hi2 (Nat.le_trans hhi hB2.size) (Nat.le_trans hhi2 hB2.size) (by have := HF.out.gn; omega) (HI.out.below hB2 hhi).gs (HJ.out.below hB2 hhi2).gs
  obtain ⟨p0, p1, p2⟩ := holds3 H2
  obtain ⟨q0, q1, q2⟩ := holds3 K2
  go_wp2_with fail
  refine c3.mono ?_
  clear c3
  rintro e w3 ⟨rfl, hb3⟩
  clear p0 p1 p2 q0 q1 q2
  have hB3 : Below w.heap.size w w3 := hB2.trans (hb3.mono hB2.size)
  have H3 : Holds w3 w.heap.size (rwC v V) := H2.below hb3 (Nat.lt_of_succ_lt hz2)
  have K3 : Holds w3 (w.heap.size + 1) (rwC v V2) := K2.below hb3 hz2
  have hz3 : w.heap.size + 1 < w3.heap.size := Nat.lt_of_lt_of_le hz2 hb3.size
  clear hb3 H2 K2
  clear H3 K3
  go_wp2
  go_ret
  exact ⟨rfl, hB3⟩
set_option maxRecDepth 100000 in
set_option maxHeartbeats 2000000 in
theorem toRw_any (v : Rw) (V : RwA) (w : World) (lo hi : Nat) (hhi : hi ≤ w.heap.size) (hm : RwSmall v) (hc : RwIn w lo hi v V) :
    Calls Try.prog 15 #[rwV v V] w fun e w' => ∃ V', e = .returned (rwV v V') ∧ RwIn w' w.heap.size w'.heap.size v V' ∧ (∀ i, i < v.n → RcNew (v.x i) (V'.A i)) ∧ Below w.heap.size w w' := by
  have HM := hid hm
  have HI := hid hc
  clear hm hc
  have hB0 : Below w.heap.size w (((w.alloc (.cells (rwC v V) 35)).alloc (.cells #[.slice none 0 0, .slice none 0 0, .slice none 0 0] 26)).alloc (.cells #[.slice none 0 0, .slice none 0 0, .slice none 0 0] 26)) := ((below_alloc _ _).alloc (by simp) _).alloc (by simp; omega) _
  go_enter Try.func15, Try.ntmps15
  go_wp2_with fail
  refine (toRcs_any v.n v.x V.A V.ra V.rc _ lo hi (Nat.le_trans hhi hB0.size) HM.out.n HM.out.x (HI.out.below hB0 hhi).rs).mono ?_
  rintro e w1 ⟨A1, rfl, own1, hb1⟩
  have hB1 : Below w.heap.size w w1 := hB0.trans (hb1.mono hB0.size)
  have hz1 : w.heap.size + 3 < w1.heap.size := by have := own1.room.lt; simpa using this
  obtain ⟨P1, R1, O1, F1, F2⟩ := three_cell hb1
  have HA1 := hid (fun i hi => (own1.at_ i hi).2.2)
  have I1 := hid (own1.isIn (lo := w.heap.size + 3) (by simp))
  simp only [World.size_alloc] at I1
  have PP1 : Holds w1 w.heap.size (rwC v V) := P1
  have OO1 : Holds w1 (w.heap.size + 1 + 1) #[.slice none 0 0, .slice none 0 0, .slice none 0 0] := O1
  have RR1 : Holds w1 (w.heap.size + 1) #[.slice none 0 0, .slice none 0 0, .slice none 0 0] := R1
  clear P1 R1 O1 hb1 own1 hB0
  obtain ⟨p0, p1, p2⟩ := holds3 PP1
  obtain ⟨o0, o1, o2⟩ := holds3 OO1
  have G1 : Fr (w.heap.size + 2) (w.heap.size + 3) w1 (w1.setCell ⟨w.heap.size + 1 + 1, 0, none⟩ (.slice (some ⟨w.heap.size + 1 + 1 + 1, 0, none⟩) v.n v.n)) := Fr.setCell (Fr.refl _ _ _) (by show w.heap.size + 2 ≤ w.heap.size + 1 + 1; omega) (by show w.heap.size + 1 + 1 < w.heap.size + 3; omega) _
  have hC1 : Below w.heap.size w (w1.setCell ⟨w.heap.size + 1 + 1, 0, none⟩ (.slice (some ⟨w.heap.size + 1 + 1 + 1, 0, none⟩) v.n v.n)) := hB1.trans (G1.below (by omega) (by omega))
  go_wp2_with fail
  refine (toMss_any v.fn v.fs V.fa V.fc _ lo hi (Nat.le_trans hhi hC1.size) HM.out.fn HM.out.fs (HI.out.below hC1 hhi).fs).mono ?_
  clear p0 p1 p2 o0 o1 o2
  rintro e w2 ⟨r2, rfl, own2, hb2⟩
  have hB2 : Below w.heap.size w w2 := hC1.trans (hb2.mono hC1.size)
  have hG2 : Fr (w.heap.size + 2) (w.heap.size + 3) w1 w2 := G1.trans (Fr.of_below hb2)
  have hx2 : Below (w1.setCell ⟨w.heap.size + 1 + 1, 0, none⟩ (.slice (some ⟨w.heap.size + 1 + 1 + 1, 0, none⟩) v.n v.n)).heap.size _ w2 := hb2
  have hs2 : w1.heap.size ≤ w2.heap.size := hG2.size
  have PP2 : Holds w2 w.heap.size (rwC v V) := PP1.fr hG2 (by omega) (Or.inl (by omega))
  have RR2 : Holds w2 (w.heap.size + 1) #[.slice none 0 0, .slice none 0 0, .slice none 0 0] := RR1.fr hG2 (by omega) (Or.inl (by omega))
  have OO2 : Holds w2 (w.heap.size + 1 + 1) #[.slice (some ⟨w.heap.size + 1 + 1 + 1, 0, none⟩) v.n v.n, .slice none 0 0, .slice none 0 0] := (h3set0 OO1 _).below hb2 (by simp only [World.size_setCell]; omega)
  have F2_2 : ∀ i, w2.frozen? ⟨w.heap.size + 1 + 1, i, none⟩ = false := fun i => ((hb2.frozen (p := ⟨w.heap.size + 1 + 1, i, none⟩) (by simp only [World.size_setCell]; show w.heap.size + 1 + 1 < _; omega)).trans (by simp only [World.frozen?_setCell])).trans (F2 i)
  have F1_2 : ∀ i, w2.frozen? ⟨w.heap.size + 1, i, none⟩ = false := fun i => ((hb2.frozen (p := ⟨w.heap.size + 1, i, none⟩) (by simp only [World.size_setCell]; show w.heap.size + 1 < _; omega)).trans (by simp only [World.frozen?_setCell])).trans (F1 i)
  have I1_2 := hid ((I1.out.same (hG2.same (Nat.le_refl _) (Or.inr (by omega)))).mono (Nat.le_refl _) hs2)
  have I2 := hid (own2.isIn (lo := w.heap.size + 3) (hi2 := w2.heap.size) (by simp only [World.size_setCell]; omega) (Nat.le_refl _))
  simp only [World.size_setCell] at I2
  have hlt2 : w1.heap.size < w2.heap.size := by have := own2.room.lt; simpa only [World.size_setCell] using this
  clear hb2 hx2 own2 PP1 OO1 RR1 G1 hC1 I1 F1 F2 hB1 hG2
  obtain ⟨p0, p1, p2⟩ := holds3 PP2
  obtain ⟨o0, o1, o2⟩ := holds3 OO2
  have G2 : Fr (w.heap.size + 2) (w.heap.size + 3) w2 (w2.setCell ⟨w.heap.size + 1 + 1, 1, none⟩ (.slice (some ⟨w1.heap.size, 0, none⟩) v.fn v.fn)) := Fr.setCell (Fr.refl _ _ _) (by show w.heap.size + 2 ≤ w.heap.size + 1 + 1; omega) (by show w.heap.size + 1 + 1 < w.heap.size + 3; omega) _
  have hC2 : Below w.heap.size w (w2.setCell ⟨w.heap.size + 1 + 1, 1, none⟩ (.slice (some ⟨w1.heap.size, 0, none⟩) v.fn v.fn)) := hB2.trans (G2.below (by omega) (by omega))
  go_wp2_with fail
  refine (toFxs_any v.gn v.gs V.ga V.gc _ lo hi (Nat.le_trans hhi hC2.size) (by have := HM.out.gn; omega) (HI.out.below hC2 hhi).gs).mono ?_
  clear p0 p1 p2 o0 o1 o2
  rintro e w3 ⟨rfl, own3, hb3⟩
  have hB3 : Below w.heap.size w w3 := hC2.trans (hb3.mono hC2.size)
  have hG3 : Fr (w.heap.size + 2) (w.heap.size + 3) w2 w3 := G2.trans (Fr.of_below hb3)
  have hs3 : w2.heap.size ≤ w3.heap.size := hG3.size
  have RR3 : Holds w3 (w.heap.size + 1) #[.slice none 0 0, .slice none 0 0, .slice none 0 0] := RR2.fr hG3 (by omega) (Or.inl (by omega))
  have OO3 : Holds w3 (w.heap.size + 1 + 1) #[.slice (some ⟨w.heap.size + 1 + 1 + 1, 0, none⟩) v.n v.n, .slice (some ⟨w1.heap.size, 0, none⟩) v.fn v.fn, .slice none 0 0] := (h3set1 OO2 _).below hb3 (by simp only [World.size_setCell]; omega)
  have F2_3 : ∀ i, w3.frozen? ⟨w.heap.size + 1 + 1, i, none⟩ = false := fun i => ((hb3.frozen (p := ⟨w.heap.size + 1 + 1, i, none⟩) (by simp only [World.size_setCell]; show w.heap.size + 1 + 1 < _; omega)).trans (by simp only [World.frozen?_setCell])).trans (F2_2 i)
  have F1_3 : ∀ i, w3.frozen? ⟨w.heap.size + 1, i, none⟩ = false := fun i => ((hb3.frozen (p := ⟨w.heap.size + 1, i, none⟩) (by simp only [World.size_setCell]; show w.heap.size + 1 < _; omega)).trans (by simp only [World.frozen?_setCell])).trans (F1_2 i)
  have I1_3 := hid ((I1_2.out.same (hG3.same (Nat.le_refl _) (Or.inr (by omega)))).mono (Nat.le_refl _) hs3)
  have I2_3 := hid ((I2.out.same (hG3.same (Nat.le_refl _) (Or.inr (by omega)))).mono (Nat.le_refl _) hs3)
  have I3 := hid (own3.isIn (lo := w.heap.size + 3) (hi2 := w3.heap.size) (by simp only [World.size_setCell]; omega) own3.room.lt)
  simp only [World.size_setCell] at I3
  clear hb3 own3 PP2 OO2 RR2 G2 hC2 I1_2 I2 F1_2 F2_2 hB2 hG3
  have key : ∀ X : World, Fr w.heap.size (w.heap.size + 3) w3 X → X.heap.size = w3.heap.size → RwIn X w.heap.size X.heap.size v ⟨some ⟨w.heap.size + 1 + 1 + 1, 0, none⟩, some ⟨w1.heap.size, 0, none⟩, some ⟨w2.heap.size, 0, none⟩, v.n, v.fn, v.gn, A1⟩ ∧ Below w.heap.size w X := fun X hX hs => by
    refine ⟨?_, hB3.trans (hX.below (Nat.le_refl _) hB3.size)⟩
    rw [hs]
    have sm : Same (w.heap.size + 3) w3.heap.size w3 X := hX.same (Nat.le_refl _) (Or.inr (Nat.le_refl _))
    exact ⟨(I1_3.out.same sm).mono (by omega) (Nat.le_refl _), (I2_3.out.same sm).mono (by omega) (Nat.le_refl _), (I3.out.same sm).mono (by omega) (Nat.le_refl _)⟩
  have KEY := hid key
  clear key I1_3 I2_3 I3
  obtain ⟨o0, o1, o2⟩ := holds3 OO3
  obtain ⟨u0, u1, u2⟩ := holds3 RR3
  go_wp2
  refine bodyPost_ret (v := rwV v ⟨some ⟨w.heap.size + 1 + 1 + 1, 0, none⟩, some ⟨w1.heap.size, 0, none⟩, some ⟨w2.heap.size, 0, none⟩, v.n, v.fn, v.gn, A1⟩) (by simp [results, Try.results15, go_sem, u0, u1, u2]) rfl ⟨_, rfl, (KEY.out _ ?_ (by simp)).1, HA1.out, (KEY.out _ ?_ (by simp)).2⟩
  all_goals
    iterate 4 refine Fr.setCell ?_ (by simp; try omega) (by simp; try omega) _
    exact Fr.refl _ _ _
end Go.Proofs.Ytjepponnhieocaa
