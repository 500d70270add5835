import Derived.Test.YtcmimbohmninkaaGreatDoorPw
namespace Go.Proofs.YtcmimbohmninkaaGreatDoor
open Go.RowKit
theorem WtCells.fr {w w' : World} {b o lo hi : Nat} {x : Wt} (h : WtCells w b o x) (hb : Fr lo hi w w') (hB : b < w.heap.size) (ho : b < lo ∨ hi ≤ b) : WtCells w' b o x :=
  ⟨(hb.cell (p := ⟨b, o, none⟩) hB ho).trans h.c0, (hb.cell (p := ⟨b, o + 1, none⟩) hB ho).trans h.c1, (hb.cell (p := ⟨b, o + 2, none⟩) hB ho).trans h.c2⟩
theorem BcIn.skip {w w' : World} {lo hi : Nat} {c : Bc} {A : BcA} {R : Nat} (h : BcIn w lo hi c A) (hf : Fr R (R + 1) w w') (hR : R < lo) (hh : hi ≤ w.heap.size) : BcIn w' lo hi c A := by
  refine ⟨fun i hi' => ?_, fun i hi' => ?_⟩
  · obtain ⟨b, off, e1, e2, e3, e4⟩ := h.ws i hi'
    exact ⟨b, off, e1, e2, e3, e4.fr hf (by omega) (by omega)⟩
  · obtain ⟨b, off, e1, e2, e3, e4⟩ := h.rs i hi'
    exact ⟨b, off, e1, e2, e3, e4.fr hf (by omega) (by omega)⟩
set_option maxRecDepth 100000 in
set_option maxHeartbeats 8000000 in
theorem implRead_any (s : ByteArray) (hs : (s.size : Int) ≤ 1048576) (m : Int) (w : World) (hT : Tab w) (hE : Ers w) (h7 : w.cell? ⟨7, 0, none⟩ = some (.int .i64 m)) (h8 : ∃ e, w.cell? ⟨8, 0, none⟩ = some e ∧ ErrV e) (h9 : ∃ e, w.cell? ⟨9, 0, none⟩ = some e ∧ ErrV e) (hz : 9 < w.heap.size) :
    Calls Tryz.prog 5 #[.string s] w fun e w' => ReR s w e w' := by
  have hB0 : Below w.heap.size w (w.alloc (.cells #[.string ⟨#[]⟩, .int .i64 0, .slice none 0 0, .slice none 0 0] 27)) := below_alloc w _
  have HR := hid (callOf_any s hs m (w.alloc (.cells #[.string ⟨#[]⟩, .int .i64 0, .slice none 0 0, .slice none 0 0] 27)) (hT.below hB0) (hE.below hB0) ((hB0.cell (p := ⟨7, 0, none⟩) (by show 7 < _; omega)).trans h7) (by obtain ⟨e, h1, h2⟩ := h8; exact ⟨e, (hB0.cell (p := ⟨8, 0, none⟩) (by show 8 < _; omega)).trans h1, h2⟩) (by obtain ⟨e, h1, h2⟩ := h9; exact ⟨e, (hB0.cell (p := ⟨9, 0, none⟩) (by show 9 < _; omega)).trans h1, h2⟩) (by simp; omega))
  have HB0 := hid hB0
  have HTH0 := hid (there_new w #[.string ⟨#[]⟩, .int .i64 0, .slice none 0 0, .slice none 0 0] 27)
  clear hT hE h7 h8 h9 hB0
  go_enter Tryz.func5, Tryz.ntmps5
  go_wp2_with (first
    | (go_at_call 13; go_must (refine HR.out.mono ?_; rintro e w1 ⟨c, A, b, err, rfl, he, hrd, hin, hb1, hfr⟩; have HFR := hid hfr; have HZ := hid (show w.heap.size + 1 ≤ w1.heap.size by have := hb1.size; simpa using this); have HBW := hid (HB0.out.trans (hb1.mono (by simp))); have HTH2 := hid (fun o => there_below (there_below HTH0.out hb1 (by simp)) (below_alloc w1 o) (by have := HZ.out; omega)); have HRD := hid hrd; have HIN : Hid (BcIn w1 (w.heap.size + 1) w1.heap.size c A) := hid (by simpa using hin); clear hb1 hrd hin hfr HR HTH0; rcases he with ⟨rfl, rfl⟩ | ⟨rfl, ty, pv, rfl⟩))
    | ((with_reducible show wpList _ _ _ (⟨none, Op.store 27 (Operand.tmp 2) _, _, _, _, _⟩ :: _) _ _); refine wpList_store_new rfl 27 _ _ rfl w.heap.size [.string ⟨#[]⟩, .int .i64 0, .slice none 0 0, .slice none 0 0] (by simp [go_sem]) rfl (HTH2.out _) sz27 (by simp [Value.oneCell']) ?_; intro W2 hr2 hf2 hz2; have HR2 := hid hr2; have HF2 := hid hf2; clear hr2 hf2)
    | ((with_reducible show wpList _ _ _ (⟨none, Op.store 27 (Operand.tmp 2) _, _, _, _, _⟩ :: _) _ _); refine wpList_store_new rfl 27 _ _ rfl w.heap.size [.string c.client, .int .i64 c.num, .slice A.wa c.wn A.wc, .slice A.ra c.rn A.rc] (by simp [go_sem]) rfl (HTH2.out _) sz27 (by simp [Value.oneCell']) ?_; intro W2 hr2 hf2 hz2; have HR2 := hid hr2; have HF2 := hid hf2; clear hr2 hf2))
  · refine bodyPost_ret (v := .tuple #[.agg #[.string c.client, .int .i64 c.num, .slice A.wa c.wn A.wc, .slice A.ra c.rn A.rc], .bool true]) (results_cell_tmp (p := 2) (u := 3) rfl _ _ w.heap.size [.string c.client, .int .i64 c.num, .slice A.wa c.wn A.wc, .slice A.ra c.rn A.rc] _ rfl HR2.out Tryz.underlying27 rfl sz27) rfl ?_
    have hB2 := HBW.out.alloc HBW.out.size (.cells #[.string c.client, .int .i64 c.num, .slice A.wa c.wn A.wc, .slice A.ra c.rn A.rc] 27)
    have hz1 := HZ.out
    have h3 := (HIN.out.below (below_alloc w1 (.cells #[.string c.client, .int .i64 c.num, .slice A.wa c.wn A.wc, .slice A.ra c.rn A.rc] 27)) (Nat.le_refl _)).skip HF2.out (by omega) (by simp)
    exact ⟨c, A, true, rfl, HRD.out, h3.mono (by omega) (by rw [hz2]; simp), hB2.trans (HF2.out.below (Nat.le_refl _) hB2.size), fun b o h => by
      have hw : c.rn = 1 := by
        rcases HRD.out with ⟨_, _, cl, nn, x, rfl, _⟩ | ⟨h, _⟩
        · rfl
        · cases h
      obtain ⟨b2, o2, e, h1, h2, _⟩ := HIN.out.rs 0 (by rw [hw]; omega)
      rw [h] at e
      cases e
      exact ⟨(HFR.out b o h).1, fun i => (HF2.out.frozen (p := ⟨b, i, none⟩) (by show b < _; simp; omega) (Or.inr (by show _ ≤ b; omega))).trans (((below_alloc w1 _).frozen (p := ⟨b, i, none⟩) h2).trans ((HFR.out b o h).2 i))⟩⟩
  · refine bodyPost_ret (v := .tuple #[.agg #[.string ⟨#[]⟩, .int .i64 0, .slice none 0 0, .slice none 0 0], .bool false]) (results_cell_tmp (p := 2) (u := 3) rfl _ _ w.heap.size [.string ⟨#[]⟩, .int .i64 0, .slice none 0 0, .slice none 0 0] _ rfl HR2.out Tryz.underlying27 rfl sz27) rfl ?_
    have hB2 := HBW.out.alloc HBW.out.size (.cells #[.string c.client, .int .i64 c.num, .slice A.wa c.wn A.wc, .slice A.ra c.rn A.rc] 27)
    have hc : c = c00 := by
      rcases HRD.out with ⟨h, _⟩ | ⟨_, h, _⟩
      · cases h
      · exact h
    exact ⟨c00, ⟨none, none, 0, 0⟩, false, rfl, by rw [← hc]; exact HRD.out, ⟨fun i hi => absurd hi (Nat.not_lt_zero _), fun i hi => absurd hi (Nat.not_lt_zero _)⟩, hB2.trans (HF2.out.below (Nat.le_refl _) hB2.size), FreeA.nil _ _ _ _⟩
end Go.Proofs.YtcmimbohmninkaaGreatDoor
