import Derived.Test.YtcmimbohmninkaaGreatDoorPh
namespace Go.Proofs.YtcmimbohmninkaaGreatDoor
open Go.RowKit
theorem results_cell_tmp {P : Program} {fn : Func} {p u : Tmp} {ty : TypeId} (h : fn.results = #[.cell p ty, .tmp u]) (tmps : Array Value) (w : World) (g : Nat) (cs : List Value) (d : TypeDesc)
    (hp : tmps.getD p undef = .pointer (some ⟨g, 0, none⟩)) (hc : w.rangeAt g 0 cs)
    (hu : P.underlying ty = some d) (hd : d.isRow = true) (hi : (P.info? ty).map (·.size) = some cs.length) :
    (results fn tmps).run P w = .ok (.tuple #[.agg cs.toArray, tmps.getD u undef]) w := by
  have hp' : tmps[p]?.getD undef = .pointer (some ⟨g, 0, none⟩) := by simpa using hp
  simp [results, h, hp', asAddr, run_loadVar_mid w g 0 ty cs d hc hu hd hi]
theorem wpList_store_new {P : Program} {ops : Array Oper} {rest : List Oper} {op : Oper} {a : Act} {w : World} {Q : Exit → Act → World → Prop} (hgd : op.guard = none) (ty : TypeId) (x y : Operand) (ho : op.op = .store ty x y)
    (b : Nat) (cs : List Value) (hx : a.eval x = .pointer (some ⟨b, 0, none⟩)) (hy : a.eval y = .agg cs.toArray)
    (ht : w.there b 0 cs.length) (hi : (P.info? ty).map (·.size) = some cs.length) (h1 : ∀ v ∈ cs, v.oneCell' = true)
    (h : ∀ W2 : World, W2.rangeAt b 0 cs → Fr b (b + 1) w W2 → W2.heap.size = w.heap.size → wpList P ops Q rest (a.put op.dst undef) W2) : wpList P ops Q (op :: rest) a w :=
  wpList_store_mid hgd ty x y ho b 0 cs.toArray hx hy (by simpa using ht) (by simpa using hi) (all_oneCell_toArray h1) (h _ (World.rangeAt_setCells_same _ _ _ _ ht) (fr_setCells _ _ _ _) (size_setCells _ _ _ _))
theorem toList_nonempty {s : ByteArray} (h : ¬ s = ⟨#[]⟩) : s.toList.isEmpty = false := by
  cases hq : s.toList.isEmpty with
  | false => rfl
  | true =>
    refine absurd (toList_inj0 ?_) h
    rw [List.isEmpty_iff.1 hq]
    simp
theorem wH_size (s : ByteArray) : (wH s).size ≤ s.size := by
  have h := (wE_is s).1
  unfold wH
  rw [ext_size _ _ _ h]
  omega
theorem one_in {w : World} {H lo hi : Nat} {x : Wr} (h : WrCells w H 0 x) (h1 : lo ≤ H) (h2 : H < hi) : WrsIn w lo hi (some ⟨H, 0, none⟩) 1 (fun _ => x) := fun i hi => by
  obtain rfl : i = 0 := by omega
  exact ⟨H, 0, rfl, h1, h2, h⟩
theorem BcIn.past {w w' : World} {lo hi H n R : Nat} {cl : ByteArray} {nn : Int} {x : Wr} (h : BcIn w lo hi (cOf cl nn x) ⟨none, some ⟨H, 0, none⟩, 0, 1⟩) (hf : Fr R (R + 1) w w') (hR : R < H) (hH : H < n) (hn : n ≤ w.heap.size) (hl : lo ≤ H) : BcIn w' lo w'.heap.size (cOf cl nn x) ⟨none, some ⟨H, 0, none⟩, 0, 1⟩ := by
  refine ⟨fun i hi => absurd hi (Nat.not_lt_zero _), ?_⟩
  obtain ⟨b, off, e, _, _, hc⟩ := h.rs 0 (by show 0 < 1; omega)
  cases e
  have := hf.size
  exact one_in (hc.fr hf (by omega) (Or.inr (by omega))) hl (by omega)
theorem range_set {w : World} {B : Nat} {a0 a1 a2 a3 a4 a5 u : Value} (h : w.rangeAt B 0 [a0, a1, a2, a3, a4, a5]) : (w.setCell ⟨B, 5, none⟩ u).rangeAt B 0 [a0, a1, a2, a3, a4, u] := by
  have c : ∀ j, j < 5 → (w.setCell ⟨B, 5, none⟩ u).cell? ⟨B, j, none⟩ = w.cell? ⟨B, j, none⟩ := fun j hj => World.cell?_setCell_other _ _ _ _ (by
    intro e
    have : (5 : Nat) = j := congrArg Addr.off e
    omega)
  intro j v hv
  rw [Nat.zero_add]
  rcases j with _ | _ | _ | _ | _ | _ | j
  · rw [c 0 (by omega)]; exact h 0 v hv
  · rw [c 1 (by omega)]; exact h 1 v hv
  · rw [c 2 (by omega)]; exact h 2 v hv
  · rw [c 3 (by omega)]; exact h 3 v hv
  · rw [c 4 (by omega)]; exact h 4 v hv
  · have e : w.cell? ⟨B, 5, none⟩ = some a5 := h 5 a5 rfl
    cases hv
    exact World.cell?_setCell_same _ _ _ e
  · simp at hv
set_option maxRecDepth 100000 in
set_option maxHeartbeats 8000000 in
theorem specRead_any (s : ByteArray) (hs : (s.size : Int) ≤ 1048576) (w : World) :
    Calls Tryz.prog 4 #[.string s] w fun e w' => ∃ c A b cl nn x, e = .returned (.tuple #[bcV c A, .bool b]) ∧ Loose s cl nn x ∧ Rd s c b ∧ BcIn w' w.heap.size w'.heap.size c A ∧ Below w.heap.size w w' := by
  have z := fun k => rN_size s k
  have y := fun k => wH_size (rN s k)
  have HZ := hid (show ((rN s 7).size : Int) ≤ 1048576 by have := z 7; omega)
  have HTW := hid (there_new w #[.string ⟨#[]⟩, .int .i64 0, .slice none 0 0, .slice none 0 0] 27)
  go_enter Tryz.func4, Tryz.ntmps4
  go_wp2_with (first | (go_at_call 9; go_must (refine (words_any s hs _).mono ?_; rintro e w1 ⟨g, cap, rfl, hcs, hg, hb1⟩; have HCS := hid hcs; have HG := hid hg; have HB1 := hid hb1; clear hcs hg hb1)) | (go_at_call 10; go_must (refine (unquote_any (rN s 7) HZ.out _).mono ?_; rintro e w2 ⟨r, q, rfl, hr, hte, hb2⟩; have HTE := hid hte; have HB2 := hid hb2; clear hte hb2)))
  have hz1 := HB1.out.size
  have hz2 := HB2.out.size
  have hg1 := HG.out
  simp only [World.size_alloc] at hz1
  have B0 : Below w.heap.size w w2 := (below_alloc w _).trans ((HB1.out.mono (by simp)).trans (HB2.out.mono (by omega)))
  have HT2 := hid (there_below (there_below HTW.out HB1.out (by simp)) HB2.out (by omega))
  have cg := hid (show ∀ j, j < 7 → w2.cell? ⟨g, j, none⟩ = some (.string (wH (rN s j))) from fun j hj => (HB2.out.cell (p := ⟨g, j, none⟩) hg1).trans (HCS.out j hj))
  have s0 : (wH (rN s 0)).size ≤ s.size := Nat.le_trans (y 0) (z 0)
  have s1 : (wH (rN s 1)).size ≤ s.size := Nat.le_trans (y 1) (z 1)
  have s2 : (wH (rN s 2)).size ≤ s.size := Nat.le_trans (y 2) (z 2)
  have s3 : (wH (rN s 3)).size ≤ s.size := Nat.le_trans (y 3) (z 3)
  have s4 : (wH (rN s 4)).size ≤ s.size := Nat.le_trans (y 4) (z 4)
  have s5 : (wH (rN s 5)).size ≤ s.size := Nat.le_trans (y 5) (z 5)
  have s6 : (wH (rN s 6)).size ≤ s.size := Nat.le_trans (y 6) (z 6)
  have s7 : (rN s 7).size ≤ s.size := z 7
  have k0 := cg.out 0 (by omega)
  have k1 := cg.out 1 (by omega)
  have k2 := cg.out 2 (by omega)
  have k3 := cg.out 3 (by omega)
  have k4 := cg.out 4 (by omega)
  have k5 := cg.out 5 (by omega)
  have k6 := cg.out 6 (by omega)
  obtain ⟨w0, W0⟩ : ∃ w0, Hid (w0 = wH (rN s 0)) := ⟨_, hid rfl⟩
  obtain ⟨w1', W1⟩ : ∃ w1, Hid (w1 = wH (rN s 1)) := ⟨_, hid rfl⟩
  obtain ⟨w2', W2⟩ : ∃ w2, Hid (w2 = wH (rN s 2)) := ⟨_, hid rfl⟩
  obtain ⟨w3, W3⟩ : ∃ w3, Hid (w3 = wH (rN s 3)) := ⟨_, hid rfl⟩
  obtain ⟨w4, W4⟩ : ∃ w4, Hid (w4 = wH (rN s 4)) := ⟨_, hid rfl⟩
  obtain ⟨w5, W5⟩ : ∃ w5, Hid (w5 = wH (rN s 5)) := ⟨_, hid rfl⟩
  obtain ⟨w6, W6⟩ : ∃ w6, Hid (w6 = wH (rN s 6)) := ⟨_, hid rfl⟩
  rw [← W0.out] at k0 s0
  rw [← W1.out] at k1 s1
  rw [← W2.out] at k2 s2
  rw [← W3.out] at k3 s3
  rw [← W4.out] at k4 s4
  rw [← W5.out] at k5 s5
  rw [← W6.out] at k6 s6
  clear y z
  refine rdReg3 _ _ _ _ _ _ _ _ _ _ _ _ _ _ _ _ _ _ _ _ _ _ _ _ _ _ _ _ _ _ _ _ _ _ _ _ _ _ _ _ _ _ _ _ _ _ _ _ _ _ _ _ _ _ _ _ _ _ _ _ _ _ g cap w2' w3 w4 w5 w6 r w2 (by omega) (by omega) (by omega) k2 k3 k4 k5 k6 _ ?_
  rintro t3 v3 X ⟨B, r2, q5, e19, n2, n5, hB1, hB2, hR, hT, hbX⟩
  rw [e19]
  clear e19
  have N2 := hid n2
  have N5 := hid n5
  have hBX : Below w.heap.size w X := B0.trans (hbX.mono (by omega))
  have hzx := hbX.size
  have m0 := (hbX.cell (p := ⟨g, 0, none⟩) (by show g < w2.heap.size; omega)).trans k0
  have m1 := (hbX.cell (p := ⟨g, 1, none⟩) (by show g < w2.heap.size; omega)).trans k1
  have HTX := hid (there_below HT2.out hbX (by omega))
  have d5 : X.cell? ⟨B, 5, none⟩ = some (.string w6) := hR 5 _ rfl
  have f5 : X.frozen? ⟨B, 5, none⟩ = false := (hT 5 (by omega)).2
  have HRX := hid hR
  clear n2 n5 hR hT k0 k1 k2 k3 k4 k5 k6 hbX cg B0 HT2 HTW
  by_cases h6 : w6 = ⟨#[42]⟩
  · subst h6
    have HRU := hid (range_set (u := .string ⟨#[]⟩) HRX.out)
    have HTU := hid (show (X.setCell ⟨B, 5, none⟩ (.string ⟨#[]⟩)).there w.heap.size 0 4 from fun j hj => ⟨by rw [World.cell?_setCell_other _ _ _ _ (by intro e; have : B = w.heap.size := congrArg Addr.block e; omega)]; exact (HTX.out j hj).1, by simpa using (HTX.out j hj).2⟩)
    have HBU := hid (hBX.setCell (p := ⟨B, 5, none⟩) (by show w.heap.size ≤ B; omega) (.string ⟨#[]⟩))
    have K0 := hid (show (X.setCell ⟨B, 5, none⟩ (.string ⟨#[]⟩)).cell? ⟨g, 0, none⟩ = _ from (World.cell?_setCell_other _ _ _ _ (by intro e; have : B = g := congrArg Addr.block e; omega)).trans m0)
    have K1 := hid (show (X.setCell ⟨B, 5, none⟩ (.string ⟨#[]⟩)).cell? ⟨g, 1, none⟩ = _ from (World.cell?_setCell_other _ _ _ _ (by intro e; have : B = g := congrArg Addr.block e; omega)).trans m1)
    have hzu : (X.setCell ⟨B, 5, none⟩ (.string ⟨#[]⟩)).heap.size = X.heap.size := World.size_setCell _ _ _
    clear m0 m1 HRX HTX
    go_wp2_with fail
    generalize X.setCell ⟨B, 5, none⟩ (.string ⟨#[]⟩) = U at *
    refine rdReg6 _ _ _ _ _ _ _ _ _ _ _ _ _ _ _ _ _ _ _ _ _ _ _ _ _ _ _ _ _ _ _ _ _ _ _ _ _ _ _ _ _ _ _ _ _ _ _ _ _ _ _ _ _ _ _ _ _ _ _ _ _ _ g cap w0 w1' B ⟨r2, w3, w4, q5, r, ⟨#[]⟩⟩ U (by omega) (by omega) (by omega) K0.out K1.out HRU.out _ ?_
    rintro t6 v6 Y ⟨C, r1, H, e11, hn1, hH1, hH2, hH3, hC1, hC2, hC3, hbY⟩
    rw [e11]
    clear e11
    have hBY : Below w.heap.size w Y := HBU.out.trans (hbY.mono HBU.out.size)
    have LO := hid (show Loose s w0 r1 ⟨r2, w3, w4, q5, r, ⟨#[]⟩⟩ from ⟨W0.out, by rw [← W1.out]; exact hn1, by rw [← W2.out]; exact N2.out, W3.out, W4.out, by rw [← W5.out]; exact N5.out, by rw [← W6.out]; first | rw [if_pos rfl] | rw [if_neg H6.out], HTE.out⟩)
    have e0 : Y.cell? ⟨C, 0, none⟩ = some (.string w0) := hC3 0 _ rfl
    have e1 : Y.cell? ⟨C, 1, none⟩ = some (.int .i64 r1) := hC3 1 _ rfl
    have e2 : Y.cell? ⟨C, 2, none⟩ = some (.slice none 0 0) := hC3 2 _ rfl
    have e3 : Y.cell? ⟨C, 3, none⟩ = some (.slice (some ⟨H, 0, none⟩) 1 1) := hC3 3 _ rfl
    have HTY := hid (there_below HTU.out hbY (by omega))
    have HIN := hid (show BcIn Y w.heap.size Y.heap.size (cOf w0 r1 ⟨r2, w3, w4, q5, r, ⟨#[]⟩⟩) ⟨none, some ⟨H, 0, none⟩, 0, 1⟩ from ⟨fun i hi => absurd hi (Nat.not_lt_zero _), one_in hH3 (by omega) hH2⟩)
    have HSF := hid (specForm_any (cOf w0 r1 ⟨r2, w3, w4, q5, r, ⟨#[]⟩⟩) ⟨none, some ⟨H, 0, none⟩, 0, 1⟩ Y w.heap.size Y.heap.size (Nat.le_refl _) ⟨by show (w0.size : Int) ≤ _; omega, by show ((0 : Nat) : Int) ≤ _; omega, fun i hi => absurd hi (Nat.not_lt_zero _), by show ((1 : Nat) : Int) ≤ _; omega, fun i _ => ⟨by show (w3.size : Int) ≤ _; omega, by show (w4.size : Int) ≤ _; omega, by show (r.size : Int) ≤ _; omega, by show (ByteArray.size ⟨#[]⟩ : Int) ≤ _; first | omega | decide⟩⟩ HIN.out)
    have HHne := hid (show w.heap.size < H by omega)
    clear hH3 hC3 HRU HTU K0 K1 hbY HBU HCS
    by_cases hs0 : s = ⟨#[]⟩
    · have hse : s.toList.isEmpty = true := by rw [hs0]; simp
      have RD := hid (LO.out.no (fun h => h.1 hs0))
      clear HSF HIN hs0
      go_wp2_with (first | ((with_reducible show wpList _ _ _ (⟨none, Op.store 27 _ _, _, _, _, _⟩ :: _) _ _); go_must (refine wpList_store_new rfl 27 _ _ rfl w.heap.size [.string ⟨#[]⟩, .int .i64 0, .slice none 0 0, .slice none 0 0] (by simp [go_sem]) rfl HTY.out sz27 (by simp [Value.oneCell']) ?_; intro W2 hr2 hf2 hz2; have HR2 := hid hr2; have HF2 := hid hf2; clear hr2 hf2)))
      refine bodyPost_ret (v := .tuple #[.agg #[.string ⟨#[]⟩, .int .i64 0, .slice none 0 0, .slice none 0 0], .bool false]) (results_cell_tmp (p := 2) (u := 3) rfl _ _ w.heap.size [.string ⟨#[]⟩, .int .i64 0, .slice none 0 0, .slice none 0 0] _ rfl HR2.out Tryz.underlying27 rfl sz27) rfl ?_
      exact ⟨c00, ⟨none, none, 0, 0⟩, false, _, _, _, rfl, LO.out, RD.out, ⟨fun i hi => absurd hi (Nat.not_lt_zero _), fun i hi => absurd hi (Nat.not_lt_zero _)⟩, hBY.trans (HF2.out.below (Nat.le_refl _) hBY.size)⟩
    · have hse : s.toList.isEmpty = false := toList_nonempty hs0
      by_cases hf : lfS (cOf w0 r1 ⟨r2, w3, w4, q5, r, ⟨#[]⟩⟩) = s
      · have RD := hid (show Rd s (cOf w0 r1 ⟨r2, w3, w4, q5, r, ⟨#[]⟩⟩) true from Or.inl ⟨rfl, hs0, _, _, _, rfl, hf⟩)
        rw [hf] at HSF
        clear hf
        go_wp2_with (first | (go_at_call 12; go_must (refine HSF.out.mono ?_; rintro e Y2 ⟨rfl, hbY2⟩; have HBY2 := hid hbY2; have f0 := (hbY2.cell (p := ⟨C, 0, none⟩) hC2).trans e0; have f1 := (hbY2.cell (p := ⟨C, 1, none⟩) hC2).trans e1; have f2 := (hbY2.cell (p := ⟨C, 2, none⟩) hC2).trans e2; have f3 := (hbY2.cell (p := ⟨C, 3, none⟩) hC2).trans e3; have hy2 := hbY2.size; have HTY2 := hid (there_below HTY.out hbY2 (by omega)); clear hbY2)) | ((with_reducible show wpList _ _ _ (⟨none, Op.store 27 _ _, _, _, _, _⟩ :: _) _ _); go_must (refine wpList_store_new rfl 27 _ _ rfl w.heap.size [.string w0, .int .i64 r1, .slice none 0 0, .slice (some ⟨H, 0, none⟩) 1 1] (by simp [go_sem]) rfl HTY2.out sz27 (by simp [Value.oneCell']) ?_; intro W2 hr2 hf2 hz2; have HR2 := hid hr2; have HF2 := hid hf2; clear hr2 hf2)))
        refine bodyPost_ret (v := .tuple #[.agg #[.string w0, .int .i64 r1, .slice none 0 0, .slice (some ⟨H, 0, none⟩) 1 1], .bool true]) (results_cell_tmp (p := 2) (u := 3) rfl _ _ w.heap.size [.string w0, .int .i64 r1, .slice none 0 0, .slice (some ⟨H, 0, none⟩) 1 1] _ rfl HR2.out Tryz.underlying27 rfl sz27) rfl ?_
        have hB2 := hBY.trans (HBY2.out.mono hBY.size)
        exact ⟨cOf w0 r1 ⟨r2, w3, w4, q5, r, ⟨#[]⟩⟩, ⟨none, some ⟨H, 0, none⟩, 0, 1⟩, true, _, _, _, rfl, LO.out, RD.out, (HIN.out.below HBY2.out (Nat.le_refl _)).past HF2.out HHne.out hH2 hy2 (by omega), hB2.trans (HF2.out.below (Nat.le_refl _) hB2.size)⟩
      · have RD := hid (LO.out.no (fun h => hf h.2))
        have hfe := toListNe hf
        generalize lfS (cOf w0 r1 ⟨r2, w3, w4, q5, r, ⟨#[]⟩⟩) = F at *
        clear hf
        go_wp2_with (first | (go_at_call 12; go_must (refine HSF.out.mono ?_; rintro e Y2 ⟨rfl, hbY2⟩; have HBY2 := hid hbY2; have hy2 := hbY2.size; have HTY2 := hid (there_below HTY.out hbY2 (by omega)); clear hbY2)) | ((with_reducible show wpList _ _ _ (⟨none, Op.store 27 _ _, _, _, _, _⟩ :: _) _ _); go_must (refine wpList_store_new rfl 27 _ _ rfl w.heap.size [.string ⟨#[]⟩, .int .i64 0, .slice none 0 0, .slice none 0 0] (by simp [go_sem]) rfl HTY2.out sz27 (by simp [Value.oneCell']) ?_; intro W2 hr2 hf2 hz2; have HR2 := hid hr2; have HF2 := hid hf2; clear hr2 hf2)))
        refine bodyPost_ret (v := .tuple #[.agg #[.string ⟨#[]⟩, .int .i64 0, .slice none 0 0, .slice none 0 0], .bool false]) (results_cell_tmp (p := 2) (u := 3) rfl _ _ w.heap.size [.string ⟨#[]⟩, .int .i64 0, .slice none 0 0, .slice none 0 0] _ rfl HR2.out Tryz.underlying27 rfl sz27) rfl ?_
        have hB2 := hBY.trans (HBY2.out.mono hBY.size)
        exact ⟨c00, ⟨none, none, 0, 0⟩, false, _, _, _, rfl, LO.out, RD.out, ⟨fun i hi => absurd hi (Nat.not_lt_zero _), fun i hi => absurd hi (Nat.not_lt_zero _)⟩, hB2.trans (HF2.out.below (Nat.le_refl _) hB2.size)⟩
  · have hne : (w6.toList == [42]) = false := by
      have := toListNe h6
      simpa using this
    have H6 := hid h6
    clear h6
    have HRU := HRX
    have HTU := HTX
    have HBU := hid hBX
    have K0 := hid m0
    have K1 := hid m1
    clear m0 m1 HRX HTX
    go_wp2_with fail
    generalize X = U at *
    refine rdReg6 _ _ _ _ _ _ _ _ _ _ _ _ _ _ _ _ _ _ _ _ _ _ _ _ _ _ _ _ _ _ _ _ _ _ _ _ _ _ _ _ _ _ _ _ _ _ _ _ _ _ _ _ _ _ _ _ _ _ _ _ _ _ g cap w0 w1' B ⟨r2, w3, w4, q5, r, w6⟩ U (by omega) (by omega) (by omega) K0.out K1.out HRU.out _ ?_
    rintro t6 v6 Y ⟨C, r1, H, e11, hn1, hH1, hH2, hH3, hC1, hC2, hC3, hbY⟩
    rw [e11]
    clear e11
    have hBY : Below w.heap.size w Y := HBU.out.trans (hbY.mono HBU.out.size)
    have LO := hid (show Loose s w0 r1 ⟨r2, w3, w4, q5, r, w6⟩ from ⟨W0.out, by rw [← W1.out]; exact hn1, by rw [← W2.out]; exact N2.out, W3.out, W4.out, by rw [← W5.out]; exact N5.out, by rw [← W6.out]; first | rw [if_pos rfl] | rw [if_neg H6.out], HTE.out⟩)
    have e0 : Y.cell? ⟨C, 0, none⟩ = some (.string w0) := hC3 0 _ rfl
    have e1 : Y.cell? ⟨C, 1, none⟩ = some (.int .i64 r1) := hC3 1 _ rfl
    have e2 : Y.cell? ⟨C, 2, none⟩ = some (.slice none 0 0) := hC3 2 _ rfl
    have e3 : Y.cell? ⟨C, 3, none⟩ = some (.slice (some ⟨H, 0, none⟩) 1 1) := hC3 3 _ rfl
    have HTY := hid (there_below HTU.out hbY (by omega))
    have HIN := hid (show BcIn Y w.heap.size Y.heap.size (cOf w0 r1 ⟨r2, w3, w4, q5, r, w6⟩) ⟨none, some ⟨H, 0, none⟩, 0, 1⟩ from ⟨fun i hi => absurd hi (Nat.not_lt_zero _), one_in hH3 (by omega) hH2⟩)
    have HSF := hid (specForm_any (cOf w0 r1 ⟨r2, w3, w4, q5, r, w6⟩) ⟨none, some ⟨H, 0, none⟩, 0, 1⟩ Y w.heap.size Y.heap.size (Nat.le_refl _) ⟨by show (w0.size : Int) ≤ _; omega, by show ((0 : Nat) : Int) ≤ _; omega, fun i hi => absurd hi (Nat.not_lt_zero _), by show ((1 : Nat) : Int) ≤ _; omega, fun i _ => ⟨by show (w3.size : Int) ≤ _; omega, by show (w4.size : Int) ≤ _; omega, by show (r.size : Int) ≤ _; omega, by show (ByteArray.size w6 : Int) ≤ _; first | omega | decide⟩⟩ HIN.out)
    have HHne := hid (show w.heap.size < H by omega)
    clear hH3 hC3 HRU HTU K0 K1 hbY HBU HCS
    by_cases hs0 : s = ⟨#[]⟩
    · have hse : s.toList.isEmpty = true := by rw [hs0]; simp
      have RD := hid (LO.out.no (fun h => h.1 hs0))
      clear HSF HIN hs0
      go_wp2_with (first | ((with_reducible show wpList _ _ _ (⟨none, Op.store 27 _ _, _, _, _, _⟩ :: _) _ _); go_must (refine wpList_store_new rfl 27 _ _ rfl w.heap.size [.string ⟨#[]⟩, .int .i64 0, .slice none 0 0, .slice none 0 0] (by simp [go_sem]) rfl HTY.out sz27 (by simp [Value.oneCell']) ?_; intro W2 hr2 hf2 hz2; have HR2 := hid hr2; have HF2 := hid hf2; clear hr2 hf2)))
      refine bodyPost_ret (v := .tuple #[.agg #[.string ⟨#[]⟩, .int .i64 0, .slice none 0 0, .slice none 0 0], .bool false]) (results_cell_tmp (p := 2) (u := 3) rfl _ _ w.heap.size [.string ⟨#[]⟩, .int .i64 0, .slice none 0 0, .slice none 0 0] _ rfl HR2.out Tryz.underlying27 rfl sz27) rfl ?_
      exact ⟨c00, ⟨none, none, 0, 0⟩, false, _, _, _, rfl, LO.out, RD.out, ⟨fun i hi => absurd hi (Nat.not_lt_zero _), fun i hi => absurd hi (Nat.not_lt_zero _)⟩, hBY.trans (HF2.out.below (Nat.le_refl _) hBY.size)⟩
    · have hse : s.toList.isEmpty = false := toList_nonempty hs0
      by_cases hf : lfS (cOf w0 r1 ⟨r2, w3, w4, q5, r, w6⟩) = s
      · have RD := hid (show Rd s (cOf w0 r1 ⟨r2, w3, w4, q5, r, w6⟩) true from Or.inl ⟨rfl, hs0, _, _, _, rfl, hf⟩)
        rw [hf] at HSF
        clear hf
        go_wp2_with (first | (go_at_call 12; go_must (refine HSF.out.mono ?_; rintro e Y2 ⟨rfl, hbY2⟩; have HBY2 := hid hbY2; have f0 := (hbY2.cell (p := ⟨C, 0, none⟩) hC2).trans e0; have f1 := (hbY2.cell (p := ⟨C, 1, none⟩) hC2).trans e1; have f2 := (hbY2.cell (p := ⟨C, 2, none⟩) hC2).trans e2; have f3 := (hbY2.cell (p := ⟨C, 3, none⟩) hC2).trans e3; have hy2 := hbY2.size; have HTY2 := hid (there_below HTY.out hbY2 (by omega)); clear hbY2)) | ((with_reducible show wpList _ _ _ (⟨none, Op.store 27 _ _, _, _, _, _⟩ :: _) _ _); go_must (refine wpList_store_new rfl 27 _ _ rfl w.heap.size [.string w0, .int .i64 r1, .slice none 0 0, .slice (some ⟨H, 0, none⟩) 1 1] (by simp [go_sem]) rfl HTY2.out sz27 (by simp [Value.oneCell']) ?_; intro W2 hr2 hf2 hz2; have HR2 := hid hr2; have HF2 := hid hf2; clear hr2 hf2)))
        refine bodyPost_ret (v := .tuple #[.agg #[.string w0, .int .i64 r1, .slice none 0 0, .slice (some ⟨H, 0, none⟩) 1 1], .bool true]) (results_cell_tmp (p := 2) (u := 3) rfl _ _ w.heap.size [.string w0, .int .i64 r1, .slice none 0 0, .slice (some ⟨H, 0, none⟩) 1 1] _ rfl HR2.out Tryz.underlying27 rfl sz27) rfl ?_
        have hB2 := hBY.trans (HBY2.out.mono hBY.size)
        exact ⟨cOf w0 r1 ⟨r2, w3, w4, q5, r, w6⟩, ⟨none, some ⟨H, 0, none⟩, 0, 1⟩, true, _, _, _, rfl, LO.out, RD.out, (HIN.out.below HBY2.out (Nat.le_refl _)).past HF2.out HHne.out hH2 hy2 (by omega), hB2.trans (HF2.out.below (Nat.le_refl _) hB2.size)⟩
      · have RD := hid (LO.out.no (fun h => hf h.2))
        have hfe := toListNe hf
        generalize lfS (cOf w0 r1 ⟨r2, w3, w4, q5, r, w6⟩) = F at *
        clear hf
        go_wp2_with (first | (go_at_call 12; go_must (refine HSF.out.mono ?_; rintro e Y2 ⟨rfl, hbY2⟩; have HBY2 := hid hbY2; have hy2 := hbY2.size; have HTY2 := hid (there_below HTY.out hbY2 (by omega)); clear hbY2)) | ((with_reducible show wpList _ _ _ (⟨none, Op.store 27 _ _, _, _, _, _⟩ :: _) _ _); go_must (refine wpList_store_new rfl 27 _ _ rfl w.heap.size [.string ⟨#[]⟩, .int .i64 0, .slice none 0 0, .slice none 0 0] (by simp [go_sem]) rfl HTY2.out sz27 (by simp [Value.oneCell']) ?_; intro W2 hr2 hf2 hz2; have HR2 := hid hr2; have HF2 := hid hf2; clear hr2 hf2)))
        refine bodyPost_ret (v := .tuple #[.agg #[.string ⟨#[]⟩, .int .i64 0, .slice none 0 0, .slice none 0 0], .bool false]) (results_cell_tmp (p := 2) (u := 3) rfl _ _ w.heap.size [.string ⟨#[]⟩, .int .i64 0, .slice none 0 0, .slice none 0 0] _ rfl HR2.out Tryz.underlying27 rfl sz27) rfl ?_
        have hB2 := hBY.trans (HBY2.out.mono hBY.size)
        exact ⟨c00, ⟨none, none, 0, 0⟩, false, _, _, _, rfl, LO.out, RD.out, ⟨fun i hi => absurd hi (Nat.not_lt_zero _), fun i hi => absurd hi (Nat.not_lt_zero _)⟩, hB2.trans (HF2.out.below (Nat.le_refl _) hB2.size)⟩
end Go.Proofs.YtcmimbohmninkaaGreatDoor
