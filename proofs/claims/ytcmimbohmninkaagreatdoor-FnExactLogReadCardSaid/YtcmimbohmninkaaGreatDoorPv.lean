import Derived.Test.YtcmimbohmninkaaGreatDoorPu
namespace Go.Proofs.YtcmimbohmninkaaGreatDoor
open Go.RowKit
theorem free_new (w : World) (cs : Array Value) (t : TypeId) (i : Nat) : (w.alloc (.cells cs t)).frozen? ⟨w.heap.size, i, none⟩ = false := by rw [World.frozen?_alloc_at _ _ _ _ rfl]
/-- what the reading of fields comes to -/
def RfR (s : ByteArray) (w : World) (e : Ending) (w' : World) : Prop :=
  ∃ c A err, e = .returned (.tuple #[bcV c A, err]) ∧ ErrV err ∧ Below w.heap.size w w' ∧ (err = .nilIface → ∃ cl nn x H, c = cOf cl nn x ∧ A = ⟨none, some ⟨H, 0, none⟩, 0, 1⟩ ∧ BcIn w' w.heap.size w'.heap.size (cOf cl nn x) ⟨none, some ⟨H, 0, none⟩, 0, 1⟩ ∧ (cl.size ≤ s.size ∧ x.kind.size ≤ s.size ∧ x.name.size ≤ s.size ∧ x.text.size ≤ s.size ∧ x.hold.size ≤ s.size) ∧ (∀ cl2 nn2 x2, Told s cl2 nn2 x2 → cl2 = cl ∧ nn2 = nn ∧ x2 = x) ∧ (∀ i, w'.frozen? ⟨H, i, none⟩ = false)) ∧ (∀ cl nn x, Told s cl nn x → err = .nilIface)
def val0 (j : Nat) : Value := tv ⟨#[]⟩ 0 wr0 j
theorem VS.start (s : ByteArray) : VS s 0 val0 :=
  ⟨fun j hj => by rcases hj with rfl | rfl | rfl <;> exact ⟨0, rfl⟩, fun j hj => by rcases hj with rfl | rfl | rfl | rfl | rfl <;> exact ⟨⟨#[]⟩, rfl, Nat.zero_le _⟩, fun _ _ _ _ j hj => absurd hj (Nat.not_lt_zero _), fun _ => rfl⟩
theorem RfAt.start (w w1 w2 : World) (hE : Ers w) (h8 : ∃ e, w.cell? ⟨8, 0, none⟩ = some e ∧ ErrV e) (h9 : ∃ e, w.cell? ⟨9, 0, none⟩ = some e ∧ ErrV e) (hz : 9 < w.heap.size) (g : Nat) (pc : Nat → ByteArray)
    (hF : FldsRd w1 (w.heap.size + 1) (w.heap.size + 1 + 1) g) (hb1 : Below (w.heap.size + 1 + 1 + 1) (((w.alloc (.cells #[.string ⟨#[]⟩, .int .i64 0, .slice none 0 0, .slice none 0 0] 27)).alloc (.cells #[.string ⟨#[]⟩, .int .i64 0, .slice none 0 0, .slice none 0 0] 27)).alloc (.cells #[.int .i64 0, .string ⟨#[]⟩, .string ⟨#[]⟩, .int .i64 0, .string ⟨#[]⟩, .string ⟨#[]⟩] 40)) w1) (hb2 : Below w1.heap.size w1 w2) (hp : ∀ j, j < 8 → w2.cell? ⟨w1.heap.size, j, none⟩ = some (.string (pc j))) (hz2 : w1.heap.size < w2.heap.size) :
    RfAt w2 w.heap.size (w.heap.size + 1) (w.heap.size + 1 + 1) g w1.heap.size pc val0 ∧ Below w.heap.size w w2 := by
  have hz1 : w.heap.size + 1 + 1 + 1 ≤ w1.heap.size := by have := hb1.size; simpa using this
  have hb12 : Below (w.heap.size + 1 + 1 + 1) (((w.alloc (.cells #[.string ⟨#[]⟩, .int .i64 0, .slice none 0 0, .slice none 0 0] 27)).alloc (.cells #[.string ⟨#[]⟩, .int .i64 0, .slice none 0 0, .slice none 0 0] 27)).alloc (.cells #[.int .i64 0, .string ⟨#[]⟩, .string ⟨#[]⟩, .int .i64 0, .string ⟨#[]⟩, .string ⟨#[]⟩] 40)) w2 := hb1.trans (hb2.mono hz1)
  have hb0 : Below w.heap.size w (((w.alloc (.cells #[.string ⟨#[]⟩, .int .i64 0, .slice none 0 0, .slice none 0 0] 27)).alloc (.cells #[.string ⟨#[]⟩, .int .i64 0, .slice none 0 0, .slice none 0 0] 27)).alloc (.cells #[.int .i64 0, .string ⟨#[]⟩, .string ⟨#[]⟩, .int .i64 0, .string ⟨#[]⟩, .string ⟨#[]⟩] 40)) := below3 w _ _ _
  have hbw : Below w.heap.size w w2 := hb0.trans (hb12.mono (by omega))
  have hc : ∀ (b o : Nat), b < w.heap.size + 1 + 1 + 1 → w2.cell? ⟨b, o, none⟩ = (((w.alloc (.cells #[.string ⟨#[]⟩, .int .i64 0, .slice none 0 0, .slice none 0 0] 27)).alloc (.cells #[.string ⟨#[]⟩, .int .i64 0, .slice none 0 0, .slice none 0 0] 27)).alloc (.cells #[.int .i64 0, .string ⟨#[]⟩, .string ⟨#[]⟩, .int .i64 0, .string ⟨#[]⟩, .string ⟨#[]⟩] 40)).cell? ⟨b, o, none⟩ := fun b o h => hb12.cell (p := ⟨b, o, none⟩) h
  have hc1 : ∀ (b o : Nat), b < w.heap.size + 1 + 1 + 1 → w1.cell? ⟨b, o, none⟩ = (((w.alloc (.cells #[.string ⟨#[]⟩, .int .i64 0, .slice none 0 0, .slice none 0 0] 27)).alloc (.cells #[.string ⟨#[]⟩, .int .i64 0, .slice none 0 0, .slice none 0 0] 27)).alloc (.cells #[.int .i64 0, .string ⟨#[]⟩, .string ⟨#[]⟩, .int .i64 0, .string ⟨#[]⟩, .string ⟨#[]⟩] 40)).cell? ⟨b, o, none⟩ := fun b o h => hb1.cell (p := ⟨b, o, none⟩) h
  have hfz : ∀ (b o : Nat), b < w.heap.size + 1 + 1 + 1 → w2.frozen? ⟨b, o, none⟩ = (((w.alloc (.cells #[.string ⟨#[]⟩, .int .i64 0, .slice none 0 0, .slice none 0 0] 27)).alloc (.cells #[.string ⟨#[]⟩, .int .i64 0, .slice none 0 0, .slice none 0 0] 27)).alloc (.cells #[.int .i64 0, .string ⟨#[]⟩, .string ⟨#[]⟩, .int .i64 0, .string ⟨#[]⟩, .string ⟨#[]⟩] 40)).frozen? ⟨b, o, none⟩ := fun b o h => hb12.frozen (p := ⟨b, o, none⟩) h
  have k0 : w1.cell? ⟨w.heap.size + 1, 0, none⟩ = some (.string ⟨#[]⟩) := by rw [hc1 _ _ (by omega)]; go_simp
  have k1 : w1.cell? ⟨w.heap.size + 1, 1, none⟩ = some (.int .i64 0) := by rw [hc1 _ _ (by omega)]; go_simp
  have r0 : w1.cell? ⟨w.heap.size + 1 + 1, 0, none⟩ = some (.int .i64 0) := by rw [hc1 _ _ (by omega)]; go_simp
  have r1 : w1.cell? ⟨w.heap.size + 1 + 1, 1, none⟩ = some (.string ⟨#[]⟩) := by rw [hc1 _ _ (by omega)]; go_simp
  have hg : g ≠ w.heap.size + 1 ∧ g ≠ w.heap.size + 1 + 1 := by
    obtain ⟨gj, _, h2, _⟩ := hF.2 0 (by omega)
    refine ⟨fun e => ?_, fun e => ?_⟩
    · rw [e, k1] at h2; cases h2
    · rw [e, r1] at h2; cases h2
  refine ⟨⟨by omega, by omega, by omega, by omega, by omega, ⟨Nat.lt_of_lt_of_le hF.1 hb2.size, hg⟩, fun j hj => ?_, ⟨hz2, by omega, by omega⟩, hp, fun j hj => ?_, ?_, ⟨by omega, by omega, by omega⟩, ?_, ?_, hE.below hbw, ?_, ?_⟩, hbw⟩
  · obtain ⟨gj, h1, h2, h3, h4⟩ := hF.2 j hj
    refine ⟨gj, (hb2.cell (p := ⟨g, j * 2, none⟩) hF.1).trans h1, (hb2.cell (p := ⟨g, j * 2 + 1, none⟩) hF.1).trans h2, Nat.lt_of_lt_of_le h3 hb2.size, (hb2.cell (p := ⟨gj, 0, none⟩) h3).trans h4, fun e => ?_, fun e => ?_⟩
    · rw [e, k0] at h4; cases h4
    · rw [e, r0] at h4; cases h4
  · rcases (show j = 0 ∨ j = 1 ∨ j = 2 ∨ j = 3 ∨ j = 4 ∨ j = 5 ∨ j = 6 ∨ j = 7 by omega) with rfl | rfl | rfl | rfl | rfl | rfl | rfl | rfl <;> (simp only [prt, val0, tv, wr0]; rw [hc _ _ (by omega), hfz _ _ (by omega)]; exact ⟨by go_simp, by go_simp⟩)
  · rw [hc _ _ (by omega), hc _ _ (by omega), hfz _ _ (by omega)]
    exact ⟨by go_simp, by go_simp, by go_simp⟩
  · intro j u hu
    rw [hc _ _ (by omega)]
    have hj : j < 4 := by
      rcases Nat.lt_or_ge j 4 with h | h
      · exact h
      · rw [List.getElem?_eq_none (show z4L.length ≤ j from h)] at hu; cases hu
    rcases (show j = 0 ∨ j = 1 ∨ j = 2 ∨ j = 3 by omega) with rfl | rfl | rfl | rfl <;> (injection hu with hu; rw [← hu]; go_simp)
  · intro j hj
    rw [hc _ _ (by omega), hfz _ _ (by omega)]
    rcases (show j = 0 ∨ j = 1 ∨ j = 2 ∨ j = 3 by omega) with rfl | rfl | rfl | rfl <;> exact ⟨by go_simp, by go_simp⟩
  · obtain ⟨e, h1, h2⟩ := h8
    exact ⟨e, (hbw.cell (p := ⟨8, 0, none⟩) (by show 8 < _; omega)).trans h1, h2⟩
  · obtain ⟨e, h1, h2⟩ := h9
    exact ⟨e, (hbw.cell (p := ⟨9, 0, none⟩) (by show 9 < _; omega)).trans h1, h2⟩
set_option maxRecDepth 100000 in
set_option maxHeartbeats 8000000 in
theorem readFields_any (s : ByteArray) (hs : (s.size : Int) ≤ 1048576) (m : Int) (w : World) (hE : Ers w) (h7 : w.cell? ⟨7, 0, none⟩ = some (.int .i64 m)) (h8 : ∃ e, w.cell? ⟨8, 0, none⟩ = some e ∧ ErrV e) (h9 : ∃ e, w.cell? ⟨9, 0, none⟩ = some e ∧ ErrV e) (hz : 9 < w.heap.size) :
    Calls Tryz.prog 21 #[.string s] w fun e w' => RfR s w e w' := by
  have H7 := hid h7
  have H8 := hid h8
  have H9 := hid h9
  have HE := hid hE
  have HB0 := hid (below3 w (.cells #[.string ⟨#[]⟩, .int .i64 0, .slice none 0 0, .slice none 0 0] 27) (.cells #[.string ⟨#[]⟩, .int .i64 0, .slice none 0 0, .slice none 0 0] 27) (.cells #[.int .i64 0, .string ⟨#[]⟩, .string ⟨#[]⟩, .int .i64 0, .string ⟨#[]⟩, .string ⟨#[]⟩] 40))
  clear h7 h8 h9 hE
  go_enter Tryz.func21, Tryz.ntmps21
  go_wp2_with (first
    | (go_at_call 32; go_must (refine (logFieldsR_any (w.heap.size + 1) (w.heap.size + 1 + 1) _).mono ?_; rintro e w1 ⟨g, rfl, hF, hb1⟩; have HF := hid hF; have HB1 := hid (show Below (w.heap.size + 1 + 1 + 1) (((w.alloc (.cells #[.string ⟨#[]⟩, .int .i64 0, .slice none 0 0, .slice none 0 0] 27)).alloc (.cells #[.string ⟨#[]⟩, .int .i64 0, .slice none 0 0, .slice none 0 0] 27)).alloc (.cells #[.int .i64 0, .string ⟨#[]⟩, .string ⟨#[]⟩, .int .i64 0, .string ⟨#[]⟩, .string ⟨#[]⟩] 40)) w1 by simpa using hb1); have H7' := hid ((hb1.cell (p := ⟨7, 0, none⟩) (by show 7 < _; simp; omega)).trans ((HB0.out.cell (p := ⟨7, 0, none⟩) (by show 7 < _; omega)).trans H7.out)); clear hF hb1 H7))
    | (go_at_call 33; go_must (refine (split8_any s hs m _ H7'.out).mono ?_; rintro e w2 ⟨n, cap, pc, rfl, hn, hp, hsz, hT, hz2, hb2⟩; have HP := hid hp; have HS := hid hsz; have HT := hid hT; have HB2 := hid hb2; have HZ2 := hid hz2; clear hp hsz hT hb2 hz2 H7'; by_cases hn8 : (n : Int) < 8)))
  · have hz1 : w.heap.size + 1 + 1 + 1 ≤ w1.heap.size := by have := HB1.out.size; simpa using this
    have hb12 : Below (w.heap.size + 1 + 1 + 1) (((w.alloc (.cells #[.string ⟨#[]⟩, .int .i64 0, .slice none 0 0, .slice none 0 0] 27)).alloc (.cells #[.string ⟨#[]⟩, .int .i64 0, .slice none 0 0, .slice none 0 0] 27)).alloc (.cells #[.int .i64 0, .string ⟨#[]⟩, .string ⟨#[]⟩, .int .i64 0, .string ⟨#[]⟩, .string ⟨#[]⟩] 40)) w2 := HB1.out.trans (HB2.out.mono hz1)
    have HBW : Hid (Below w.heap.size w w2) := hid (HB0.out.trans (hb12.mono (by omega)))
    have b0 : w2.cell? ⟨w.heap.size, 0, none⟩ = some (.string ⟨#[]⟩) := (hb12.cell (p := ⟨w.heap.size, 0, none⟩) (by show w.heap.size < _; omega)).trans (by go_simp)
    have b1 : w2.cell? ⟨w.heap.size, 1, none⟩ = some (.int .i64 0) := (hb12.cell (p := ⟨w.heap.size, 1, none⟩) (by show w.heap.size < _; omega)).trans (by go_simp)
    have b2 : w2.cell? ⟨w.heap.size, 2, none⟩ = some (.slice none 0 0) := (hb12.cell (p := ⟨w.heap.size, 2, none⟩) (by show w.heap.size < _; omega)).trans (by go_simp)
    have b3 : w2.cell? ⟨w.heap.size, 3, none⟩ = some (.slice none 0 0) := (hb12.cell (p := ⟨w.heap.size, 3, none⟩) (by show w.heap.size < _; omega)).trans (by go_simp)
    have d0 : w2.frozen? ⟨w.heap.size, 0, none⟩ = false := (hb12.frozen (p := ⟨w.heap.size, 0, none⟩) (by show w.heap.size < _; omega)).trans (by go_simp)
    have d1 : w2.frozen? ⟨w.heap.size, 1, none⟩ = false := (hb12.frozen (p := ⟨w.heap.size, 1, none⟩) (by show w.heap.size < _; omega)).trans (by go_simp)
    have d2 : w2.frozen? ⟨w.heap.size, 2, none⟩ = false := (hb12.frozen (p := ⟨w.heap.size, 2, none⟩) (by show w.heap.size < _; omega)).trans (by go_simp)
    have d3 : w2.frozen? ⟨w.heap.size, 3, none⟩ = false := (hb12.frozen (p := ⟨w.heap.size, 3, none⟩) (by show w.heap.size < _; omega)).trans (by go_simp)
    obtain ⟨_, ty, pv, hc2⟩ := (HE.out.below HBW.out) 2 (by omega)
    have HTN : Hid (∀ cl nn x, Told s cl nn x → False) := hid fun cl nn x T => by have := (HT.out cl nn x T).1; omega
    clear HB1 HB2 hb12 HT HP HS HF HZ2
    go_region
    go_wp2
    have HR6 : (((((w2.setCell ⟨w.heap.size, 0, none⟩ (.string ⟨#[]⟩)).setCell ⟨w.heap.size, 1, none⟩ (.int .i64 0)).setCell ⟨w.heap.size, 2, none⟩ (.slice none 0 0)).setCell ⟨w.heap.size, 3, none⟩ (.slice none 0 0)).drew).rangeAt w.heap.size 0 [.string ⟨#[]⟩, .int .i64 0, .slice none 0 0, .slice none 0 0] := by
      intro j u hu
      have hj : j < 4 := by
        rcases Nat.lt_or_ge j 4 with h | h
        · exact h
        · have hl : [Value.string ⟨#[]⟩, Value.int .i64 0, Value.slice none 0 0, Value.slice none 0 0].length ≤ j := h
          rw [List.getElem?_eq_none hl] at hu
          cases hu
      rcases (show j = 0 ∨ j = 1 ∨ j = 2 ∨ j = 3 by omega) with rfl | rfl | rfl | rfl <;> (injection hu with hu; rw [← hu]; go_simp)
    refine bodyPost_ret (v := .tuple #[.agg #[.string ⟨#[]⟩, .int .i64 0, .slice none 0 0, .slice none 0 0], .iface ty pv]) (results_cell_tmp (p := 2) (u := 3) rfl _ _ w.heap.size [.string ⟨#[]⟩, .int .i64 0, .slice none 0 0, .slice none 0 0] _ rfl HR6 Tryz.underlying27 rfl sz27) rfl ?_
    exact ⟨c00, ⟨none, none, 0, 0⟩, _, rfl, .inr ⟨_, _, rfl⟩, ((((HBW.out.setCell (p := ⟨w.heap.size, 0, none⟩) (Nat.le_refl _) _).setCell (p := ⟨w.heap.size, 1, none⟩) (Nat.le_refl _) _).setCell (p := ⟨w.heap.size, 2, none⟩) (Nat.le_refl _) _).setCell (p := ⟨w.heap.size, 3, none⟩) (Nat.le_refl _) _).drew, fun e => (by cases e), fun cl nn x T => (HTN.out cl nn x T).elim⟩
  · have HST := hid (RfAt.start w w1 w2 HE.out H8.out H9.out hz g pc HF.out HB1.out HB2.out (fun j hj => HP.out j (by omega)) HZ2.out)
    have HPC : Hid (PcT s pc) := hid ⟨HS.out, fun cl nn x T => (HT.out cl nn x T).2⟩
    obtain ⟨q, HQ⟩ : ∃ q, Hid (q = w1.heap.size) := ⟨_, hid rfl⟩
    obtain ⟨C, HC⟩ : ∃ C, Hid (C = w.heap.size + 1) := ⟨_, hid rfl⟩
    obtain ⟨R, HRR⟩ : ∃ R, Hid (R = w.heap.size + 1 + 1) := ⟨_, hid rfl⟩
    rw [← HRR.out, ← HC.out, ← HQ.out] at HST
    have hC1 : w.heap.size ≤ C := by have := HC.out; omega
    have hR1 : w.heap.size ≤ R := by have := HRR.out; omega
    simp only [← HRR.out]
    simp only [← HC.out, ← HQ.out]
    clear HF HB1 HB2 HP HZ2 HS HT H8 H9 HE HB0 HQ HC HRR
    go_loopw [25] (fun i wr => ∃ (k : Nat) (val : Nat → Value), k ≤ 8 ∧ i = .int .i64 k ∧ Hid (RfAt wr w.heap.size C R g q pc val) ∧ Hid (VS s k val) ∧ Hid (Below w.heap.size w wr)) (fun i _ => 8 - (intOf i).toNat)
    case atStart => exact ⟨0, val0, by omega, rfl, hid HST.out.1, hid (VS.start s), hid HST.out.2⟩
    case round =>
      obtain ⟨k, val, hk, rfl, HR, HV, HB⟩ := hrel
      clear HST
      by_cases hk8 : k < 8
      · obtain ⟨gk, c0, c1, hgl, hgc, _, _⟩ := HR.out.fl k hk8
        have HGC := hid hgc
        have zg := HR.out.zg.1
        clear hgc
        rcases (show k = 0 ∨ k = 1 ∨ k = 2 ∨ k = 3 ∨ k = 4 ∨ k = 5 ∨ k = 6 ∨ k = 7 by omega) with rfl | rfl | rfl | rfl | rfl | rfl | rfl | rfl
        · have HG : Hid (∀ Z, Below (wr.heap.size + 1) (wr.alloc (.cells #[.func (.func (wrt 0)) #[] #[.pointer (some ⟨gk, 0, none⟩)], .func (.func (rdt 0)) #[] #[.pointer (some ⟨gk, 0, none⟩)]] 69)) Z → Calls Tryz.prog 51 #[.string (pc 0), .pointer (some ⟨gk, 0, none⟩)] Z fun e X => ∃ err, e = .returned err ∧ PPk s w.heap.size w w.heap.size C R g q pc 0 err X) := hid fun Z hZ => by
            have hb0 : Below wr.heap.size wr Z := (below_alloc wr _).trans (hZ.mono (Nat.le_succ _))
            exact read_field s hs w.heap.size w w.heap.size C R g q pc HPC.out 0 (by omega) Z val HV.out (HR.out.below hb0) (by omega) (by omega) (HB.out.trans (hb0.mono HB.out.size)) gk (Nat.lt_of_lt_of_le hgl hb0.size) ((hb0.cell (p := ⟨gk, 0, none⟩) hgl).trans HGC.out)
          simp only [wrt, rdt, Nat.reduceMul, Nat.reduceAdd] at c0 c1 HG
          have cq := HR.out.pcs 0 (by omega)
          have zq := HR.out.zq.1
          go_wp2_with fail
          refine rfReg51 _ _ _ _ _ _ _ _ _ _ _ _ _ _ _ _ _ _ _ _ _ _ _ _ _ _ _ _ _ _ _ _ _ _ _ _ _ _ _ _ _ _ _ _ wr.heap.size gk q n cap 0 (pc 0) _ (PPk s w.heap.size w w.heap.size C R g q pc 0) (by simp) (by simp) (by simp; omega) (by omega) hn (by rw [World.cell?_alloc_past _ _ _ zq]; exact cq) (fun Z hZ => HG.out Z (by simpa using hZ)) _ ?_
          rintro t v3 X ⟨he, val2, hR2, hV2, hT2, hB2⟩
          have HR' := hid hR2
          have HV' := hid hV2
          have HT' := hid hT2
          have HB' := hid hB2
          clear hR2 hV2 hT2 hB2 HG
          rcases he with rfl | ⟨ty, p, rfl⟩
          · go_wp2
            go_roundw
            case rel => exact ⟨0 + 1, val2, by omega, by go_num, HR', HV', HB'⟩
            case measure => simp [intOf]
          · have HTH := hid HR'.out.bt
            have HBZ := hid HB'.out.size
            go_wp2_with (first | ((with_reducible show wpList _ _ _ (⟨none, Op.store 27 _ _, _, _, _, _⟩ :: _) _ _); go_must (refine wpList_store_new rfl 27 _ _ rfl w.heap.size [.string ⟨#[]⟩, .int .i64 0, .slice none 0 0, .slice none 0 0] (by simp [go_sem]) rfl HTH.out sz27 (by simp [Value.oneCell']) ?_; intro W2 hr2 hf2 hz2; have HR2 := hid hr2; have HF2 := hid hf2; clear hr2 hf2)))
            refine bodyPost_ret (v := .tuple #[.agg #[.string ⟨#[]⟩, .int .i64 0, .slice none 0 0, .slice none 0 0], .iface ty p]) (results_cell_tmp (p := 2) (u := 3) rfl _ _ w.heap.size [.string ⟨#[]⟩, .int .i64 0, .slice none 0 0, .slice none 0 0] _ rfl HR2.out Tryz.underlying27 rfl sz27) rfl ?_
            exact ⟨c00, ⟨none, none, 0, 0⟩, _, rfl, .inr ⟨_, _, rfl⟩, HB'.out.trans (HF2.out.below (Nat.le_refl _) HBZ.out), fun e => (by cases e), HT'.out⟩
        · have HG : Hid (∀ Z, Below (wr.heap.size + 1) (wr.alloc (.cells #[.func (.func (wrt 1)) #[] #[.pointer (some ⟨gk, 0, none⟩)], .func (.func (rdt 1)) #[] #[.pointer (some ⟨gk, 0, none⟩)]] 69)) Z → Calls Tryz.prog 54 #[.string (pc 1), .pointer (some ⟨gk, 0, none⟩)] Z fun e X => ∃ err, e = .returned err ∧ PPk s w.heap.size w w.heap.size C R g q pc 1 err X) := hid fun Z hZ => by
            have hb0 : Below wr.heap.size wr Z := (below_alloc wr _).trans (hZ.mono (Nat.le_succ _))
            exact read_field s hs w.heap.size w w.heap.size C R g q pc HPC.out 1 (by omega) Z val HV.out (HR.out.below hb0) (by omega) (by omega) (HB.out.trans (hb0.mono HB.out.size)) gk (Nat.lt_of_lt_of_le hgl hb0.size) ((hb0.cell (p := ⟨gk, 0, none⟩) hgl).trans HGC.out)
          simp only [wrt, rdt, Nat.reduceMul, Nat.reduceAdd] at c0 c1 HG
          have cq := HR.out.pcs 1 (by omega)
          have zq := HR.out.zq.1
          go_wp2_with fail
          refine rfReg54 _ _ _ _ _ _ _ _ _ _ _ _ _ _ _ _ _ _ _ _ _ _ _ _ _ _ _ _ _ _ _ _ _ _ _ _ _ _ _ _ _ _ _ _ wr.heap.size gk q n cap 1 (pc 1) _ (PPk s w.heap.size w w.heap.size C R g q pc 1) (by simp) (by simp) (by simp; omega) (by omega) hn (by rw [World.cell?_alloc_past _ _ _ zq]; exact cq) (fun Z hZ => HG.out Z (by simpa using hZ)) _ ?_
          rintro t v3 X ⟨he, val2, hR2, hV2, hT2, hB2⟩
          have HR' := hid hR2
          have HV' := hid hV2
          have HT' := hid hT2
          have HB' := hid hB2
          clear hR2 hV2 hT2 hB2 HG
          rcases he with rfl | ⟨ty, p, rfl⟩
          · go_wp2
            go_roundw
            case rel => exact ⟨1 + 1, val2, by omega, by go_num, HR', HV', HB'⟩
            case measure => simp [intOf]
          · have HTH := hid HR'.out.bt
            have HBZ := hid HB'.out.size
            go_wp2_with (first | ((with_reducible show wpList _ _ _ (⟨none, Op.store 27 _ _, _, _, _, _⟩ :: _) _ _); go_must (refine wpList_store_new rfl 27 _ _ rfl w.heap.size [.string ⟨#[]⟩, .int .i64 0, .slice none 0 0, .slice none 0 0] (by simp [go_sem]) rfl HTH.out sz27 (by simp [Value.oneCell']) ?_; intro W2 hr2 hf2 hz2; have HR2 := hid hr2; have HF2 := hid hf2; clear hr2 hf2)))
            refine bodyPost_ret (v := .tuple #[.agg #[.string ⟨#[]⟩, .int .i64 0, .slice none 0 0, .slice none 0 0], .iface ty p]) (results_cell_tmp (p := 2) (u := 3) rfl _ _ w.heap.size [.string ⟨#[]⟩, .int .i64 0, .slice none 0 0, .slice none 0 0] _ rfl HR2.out Tryz.underlying27 rfl sz27) rfl ?_
            exact ⟨c00, ⟨none, none, 0, 0⟩, _, rfl, .inr ⟨_, _, rfl⟩, HB'.out.trans (HF2.out.below (Nat.le_refl _) HBZ.out), fun e => (by cases e), HT'.out⟩
        · have HG : Hid (∀ Z, Below (wr.heap.size + 1) (wr.alloc (.cells #[.func (.func (wrt 2)) #[] #[.pointer (some ⟨gk, 0, none⟩)], .func (.func (rdt 2)) #[] #[.pointer (some ⟨gk, 0, none⟩)]] 69)) Z → Calls Tryz.prog 54 #[.string (pc 2), .pointer (some ⟨gk, 0, none⟩)] Z fun e X => ∃ err, e = .returned err ∧ PPk s w.heap.size w w.heap.size C R g q pc 2 err X) := hid fun Z hZ => by
            have hb0 : Below wr.heap.size wr Z := (below_alloc wr _).trans (hZ.mono (Nat.le_succ _))
            exact read_field s hs w.heap.size w w.heap.size C R g q pc HPC.out 2 (by omega) Z val HV.out (HR.out.below hb0) (by omega) (by omega) (HB.out.trans (hb0.mono HB.out.size)) gk (Nat.lt_of_lt_of_le hgl hb0.size) ((hb0.cell (p := ⟨gk, 0, none⟩) hgl).trans HGC.out)
          simp only [wrt, rdt, Nat.reduceMul, Nat.reduceAdd] at c0 c1 HG
          have cq := HR.out.pcs 2 (by omega)
          have zq := HR.out.zq.1
          go_wp2_with fail
          refine rfReg54 _ _ _ _ _ _ _ _ _ _ _ _ _ _ _ _ _ _ _ _ _ _ _ _ _ _ _ _ _ _ _ _ _ _ _ _ _ _ _ _ _ _ _ _ wr.heap.size gk q n cap 2 (pc 2) _ (PPk s w.heap.size w w.heap.size C R g q pc 2) (by simp) (by simp) (by simp; omega) (by omega) hn (by rw [World.cell?_alloc_past _ _ _ zq]; exact cq) (fun Z hZ => HG.out Z (by simpa using hZ)) _ ?_
          rintro t v3 X ⟨he, val2, hR2, hV2, hT2, hB2⟩
          have HR' := hid hR2
          have HV' := hid hV2
          have HT' := hid hT2
          have HB' := hid hB2
          clear hR2 hV2 hT2 hB2 HG
          rcases he with rfl | ⟨ty, p, rfl⟩
          · go_wp2
            go_roundw
            case rel => exact ⟨2 + 1, val2, by omega, by go_num, HR', HV', HB'⟩
            case measure => simp [intOf]
          · have HTH := hid HR'.out.bt
            have HBZ := hid HB'.out.size
            go_wp2_with (first | ((with_reducible show wpList _ _ _ (⟨none, Op.store 27 _ _, _, _, _, _⟩ :: _) _ _); go_must (refine wpList_store_new rfl 27 _ _ rfl w.heap.size [.string ⟨#[]⟩, .int .i64 0, .slice none 0 0, .slice none 0 0] (by simp [go_sem]) rfl HTH.out sz27 (by simp [Value.oneCell']) ?_; intro W2 hr2 hf2 hz2; have HR2 := hid hr2; have HF2 := hid hf2; clear hr2 hf2)))
            refine bodyPost_ret (v := .tuple #[.agg #[.string ⟨#[]⟩, .int .i64 0, .slice none 0 0, .slice none 0 0], .iface ty p]) (results_cell_tmp (p := 2) (u := 3) rfl _ _ w.heap.size [.string ⟨#[]⟩, .int .i64 0, .slice none 0 0, .slice none 0 0] _ rfl HR2.out Tryz.underlying27 rfl sz27) rfl ?_
            exact ⟨c00, ⟨none, none, 0, 0⟩, _, rfl, .inr ⟨_, _, rfl⟩, HB'.out.trans (HF2.out.below (Nat.le_refl _) HBZ.out), fun e => (by cases e), HT'.out⟩
        · have HG : Hid (∀ Z, Below (wr.heap.size + 1) (wr.alloc (.cells #[.func (.func (wrt 3)) #[] #[.pointer (some ⟨gk, 0, none⟩)], .func (.func (rdt 3)) #[] #[.pointer (some ⟨gk, 0, none⟩)]] 69)) Z → Calls Tryz.prog 51 #[.string (pc 3), .pointer (some ⟨gk, 0, none⟩)] Z fun e X => ∃ err, e = .returned err ∧ PPk s w.heap.size w w.heap.size C R g q pc 3 err X) := hid fun Z hZ => by
            have hb0 : Below wr.heap.size wr Z := (below_alloc wr _).trans (hZ.mono (Nat.le_succ _))
            exact read_field s hs w.heap.size w w.heap.size C R g q pc HPC.out 3 (by omega) Z val HV.out (HR.out.below hb0) (by omega) (by omega) (HB.out.trans (hb0.mono HB.out.size)) gk (Nat.lt_of_lt_of_le hgl hb0.size) ((hb0.cell (p := ⟨gk, 0, none⟩) hgl).trans HGC.out)
          simp only [wrt, rdt, Nat.reduceMul, Nat.reduceAdd] at c0 c1 HG
          have cq := HR.out.pcs 3 (by omega)
          have zq := HR.out.zq.1
          go_wp2_with fail
          refine rfReg51 _ _ _ _ _ _ _ _ _ _ _ _ _ _ _ _ _ _ _ _ _ _ _ _ _ _ _ _ _ _ _ _ _ _ _ _ _ _ _ _ _ _ _ _ wr.heap.size gk q n cap 3 (pc 3) _ (PPk s w.heap.size w w.heap.size C R g q pc 3) (by simp) (by simp) (by simp; omega) (by omega) hn (by rw [World.cell?_alloc_past _ _ _ zq]; exact cq) (fun Z hZ => HG.out Z (by simpa using hZ)) _ ?_
          rintro t v3 X ⟨he, val2, hR2, hV2, hT2, hB2⟩
          have HR' := hid hR2
          have HV' := hid hV2
          have HT' := hid hT2
          have HB' := hid hB2
          clear hR2 hV2 hT2 hB2 HG
          rcases he with rfl | ⟨ty, p, rfl⟩
          · go_wp2
            go_roundw
            case rel => exact ⟨3 + 1, val2, by omega, by go_num, HR', HV', HB'⟩
            case measure => simp [intOf]
          · have HTH := hid HR'.out.bt
            have HBZ := hid HB'.out.size
            go_wp2_with (first | ((with_reducible show wpList _ _ _ (⟨none, Op.store 27 _ _, _, _, _, _⟩ :: _) _ _); go_must (refine wpList_store_new rfl 27 _ _ rfl w.heap.size [.string ⟨#[]⟩, .int .i64 0, .slice none 0 0, .slice none 0 0] (by simp [go_sem]) rfl HTH.out sz27 (by simp [Value.oneCell']) ?_; intro W2 hr2 hf2 hz2; have HR2 := hid hr2; have HF2 := hid hf2; clear hr2 hf2)))
            refine bodyPost_ret (v := .tuple #[.agg #[.string ⟨#[]⟩, .int .i64 0, .slice none 0 0, .slice none 0 0], .iface ty p]) (results_cell_tmp (p := 2) (u := 3) rfl _ _ w.heap.size [.string ⟨#[]⟩, .int .i64 0, .slice none 0 0, .slice none 0 0] _ rfl HR2.out Tryz.underlying27 rfl sz27) rfl ?_
            exact ⟨c00, ⟨none, none, 0, 0⟩, _, rfl, .inr ⟨_, _, rfl⟩, HB'.out.trans (HF2.out.below (Nat.le_refl _) HBZ.out), fun e => (by cases e), HT'.out⟩
        · have HG : Hid (∀ Z, Below (wr.heap.size + 1) (wr.alloc (.cells #[.func (.func (wrt 4)) #[] #[.pointer (some ⟨gk, 0, none⟩)], .func (.func (rdt 4)) #[] #[.pointer (some ⟨gk, 0, none⟩)]] 69)) Z → Calls Tryz.prog 51 #[.string (pc 4), .pointer (some ⟨gk, 0, none⟩)] Z fun e X => ∃ err, e = .returned err ∧ PPk s w.heap.size w w.heap.size C R g q pc 4 err X) := hid fun Z hZ => by
            have hb0 : Below wr.heap.size wr Z := (below_alloc wr _).trans (hZ.mono (Nat.le_succ _))
            exact read_field s hs w.heap.size w w.heap.size C R g q pc HPC.out 4 (by omega) Z val HV.out (HR.out.below hb0) (by omega) (by omega) (HB.out.trans (hb0.mono HB.out.size)) gk (Nat.lt_of_lt_of_le hgl hb0.size) ((hb0.cell (p := ⟨gk, 0, none⟩) hgl).trans HGC.out)
          simp only [wrt, rdt, Nat.reduceMul, Nat.reduceAdd] at c0 c1 HG
          have cq := HR.out.pcs 4 (by omega)
          have zq := HR.out.zq.1
          go_wp2_with fail
          refine rfReg51 _ _ _ _ _ _ _ _ _ _ _ _ _ _ _ _ _ _ _ _ _ _ _ _ _ _ _ _ _ _ _ _ _ _ _ _ _ _ _ _ _ _ _ _ wr.heap.size gk q n cap 4 (pc 4) _ (PPk s w.heap.size w w.heap.size C R g q pc 4) (by simp) (by simp) (by simp; omega) (by omega) hn (by rw [World.cell?_alloc_past _ _ _ zq]; exact cq) (fun Z hZ => HG.out Z (by simpa using hZ)) _ ?_
          rintro t v3 X ⟨he, val2, hR2, hV2, hT2, hB2⟩
          have HR' := hid hR2
          have HV' := hid hV2
          have HT' := hid hT2
          have HB' := hid hB2
          clear hR2 hV2 hT2 hB2 HG
          rcases he with rfl | ⟨ty, p, rfl⟩
          · go_wp2
            go_roundw
            case rel => exact ⟨4 + 1, val2, by omega, by go_num, HR', HV', HB'⟩
            case measure => simp [intOf]
          · have HTH := hid HR'.out.bt
            have HBZ := hid HB'.out.size
            go_wp2_with (first | ((with_reducible show wpList _ _ _ (⟨none, Op.store 27 _ _, _, _, _, _⟩ :: _) _ _); go_must (refine wpList_store_new rfl 27 _ _ rfl w.heap.size [.string ⟨#[]⟩, .int .i64 0, .slice none 0 0, .slice none 0 0] (by simp [go_sem]) rfl HTH.out sz27 (by simp [Value.oneCell']) ?_; intro W2 hr2 hf2 hz2; have HR2 := hid hr2; have HF2 := hid hf2; clear hr2 hf2)))
            refine bodyPost_ret (v := .tuple #[.agg #[.string ⟨#[]⟩, .int .i64 0, .slice none 0 0, .slice none 0 0], .iface ty p]) (results_cell_tmp (p := 2) (u := 3) rfl _ _ w.heap.size [.string ⟨#[]⟩, .int .i64 0, .slice none 0 0, .slice none 0 0] _ rfl HR2.out Tryz.underlying27 rfl sz27) rfl ?_
            exact ⟨c00, ⟨none, none, 0, 0⟩, _, rfl, .inr ⟨_, _, rfl⟩, HB'.out.trans (HF2.out.below (Nat.le_refl _) HBZ.out), fun e => (by cases e), HT'.out⟩
        · have HG : Hid (∀ Z, Below (wr.heap.size + 1) (wr.alloc (.cells #[.func (.func (wrt 5)) #[] #[.pointer (some ⟨gk, 0, none⟩)], .func (.func (rdt 5)) #[] #[.pointer (some ⟨gk, 0, none⟩)]] 69)) Z → Calls Tryz.prog 54 #[.string (pc 5), .pointer (some ⟨gk, 0, none⟩)] Z fun e X => ∃ err, e = .returned err ∧ PPk s w.heap.size w w.heap.size C R g q pc 5 err X) := hid fun Z hZ => by
            have hb0 : Below wr.heap.size wr Z := (below_alloc wr _).trans (hZ.mono (Nat.le_succ _))
            exact read_field s hs w.heap.size w w.heap.size C R g q pc HPC.out 5 (by omega) Z val HV.out (HR.out.below hb0) (by omega) (by omega) (HB.out.trans (hb0.mono HB.out.size)) gk (Nat.lt_of_lt_of_le hgl hb0.size) ((hb0.cell (p := ⟨gk, 0, none⟩) hgl).trans HGC.out)
          simp only [wrt, rdt, Nat.reduceMul, Nat.reduceAdd] at c0 c1 HG
          have cq := HR.out.pcs 5 (by omega)
          have zq := HR.out.zq.1
          go_wp2_with fail
          refine rfReg54 _ _ _ _ _ _ _ _ _ _ _ _ _ _ _ _ _ _ _ _ _ _ _ _ _ _ _ _ _ _ _ _ _ _ _ _ _ _ _ _ _ _ _ _ wr.heap.size gk q n cap 5 (pc 5) _ (PPk s w.heap.size w w.heap.size C R g q pc 5) (by simp) (by simp) (by simp; omega) (by omega) hn (by rw [World.cell?_alloc_past _ _ _ zq]; exact cq) (fun Z hZ => HG.out Z (by simpa using hZ)) _ ?_
          rintro t v3 X ⟨he, val2, hR2, hV2, hT2, hB2⟩
          have HR' := hid hR2
          have HV' := hid hV2
          have HT' := hid hT2
          have HB' := hid hB2
          clear hR2 hV2 hT2 hB2 HG
          rcases he with rfl | ⟨ty, p, rfl⟩
          · go_wp2
            go_roundw
            case rel => exact ⟨5 + 1, val2, by omega, by go_num, HR', HV', HB'⟩
            case measure => simp [intOf]
          · have HTH := hid HR'.out.bt
            have HBZ := hid HB'.out.size
            go_wp2_with (first | ((with_reducible show wpList _ _ _ (⟨none, Op.store 27 _ _, _, _, _, _⟩ :: _) _ _); go_must (refine wpList_store_new rfl 27 _ _ rfl w.heap.size [.string ⟨#[]⟩, .int .i64 0, .slice none 0 0, .slice none 0 0] (by simp [go_sem]) rfl HTH.out sz27 (by simp [Value.oneCell']) ?_; intro W2 hr2 hf2 hz2; have HR2 := hid hr2; have HF2 := hid hf2; clear hr2 hf2)))
            refine bodyPost_ret (v := .tuple #[.agg #[.string ⟨#[]⟩, .int .i64 0, .slice none 0 0, .slice none 0 0], .iface ty p]) (results_cell_tmp (p := 2) (u := 3) rfl _ _ w.heap.size [.string ⟨#[]⟩, .int .i64 0, .slice none 0 0, .slice none 0 0] _ rfl HR2.out Tryz.underlying27 rfl sz27) rfl ?_
            exact ⟨c00, ⟨none, none, 0, 0⟩, _, rfl, .inr ⟨_, _, rfl⟩, HB'.out.trans (HF2.out.below (Nat.le_refl _) HBZ.out), fun e => (by cases e), HT'.out⟩
        · have HG : Hid (∀ Z, Below (wr.heap.size + 1) (wr.alloc (.cells #[.func (.func (wrt 6)) #[] #[.pointer (some ⟨gk, 0, none⟩)], .func (.func (rdt 6)) #[] #[.pointer (some ⟨gk, 0, none⟩)]] 69)) Z → Calls Tryz.prog 57 #[.string (pc 6), .pointer (some ⟨gk, 0, none⟩)] Z fun e X => ∃ err, e = .returned err ∧ PPk s w.heap.size w w.heap.size C R g q pc 6 err X) := hid fun Z hZ => by
            have hb0 : Below wr.heap.size wr Z := (below_alloc wr _).trans (hZ.mono (Nat.le_succ _))
            exact read_field s hs w.heap.size w w.heap.size C R g q pc HPC.out 6 (by omega) Z val HV.out (HR.out.below hb0) (by omega) (by omega) (HB.out.trans (hb0.mono HB.out.size)) gk (Nat.lt_of_lt_of_le hgl hb0.size) ((hb0.cell (p := ⟨gk, 0, none⟩) hgl).trans HGC.out)
          simp only [wrt, rdt, Nat.reduceMul, Nat.reduceAdd] at c0 c1 HG
          have cq := HR.out.pcs 6 (by omega)
          have zq := HR.out.zq.1
          go_wp2_with fail
          refine rfReg57 _ _ _ _ _ _ _ _ _ _ _ _ _ _ _ _ _ _ _ _ _ _ _ _ _ _ _ _ _ _ _ _ _ _ _ _ _ _ _ _ _ _ _ _ wr.heap.size gk q n cap 6 (pc 6) _ (PPk s w.heap.size w w.heap.size C R g q pc 6) (by simp) (by simp) (by simp; omega) (by omega) hn (by rw [World.cell?_alloc_past _ _ _ zq]; exact cq) (fun Z hZ => HG.out Z (by simpa using hZ)) _ ?_
          rintro t v3 X ⟨he, val2, hR2, hV2, hT2, hB2⟩
          have HR' := hid hR2
          have HV' := hid hV2
          have HT' := hid hT2
          have HB' := hid hB2
          clear hR2 hV2 hT2 hB2 HG
          rcases he with rfl | ⟨ty, p, rfl⟩
          · go_wp2
            go_roundw
            case rel => exact ⟨6 + 1, val2, by omega, by go_num, HR', HV', HB'⟩
            case measure => simp [intOf]
          · have HTH := hid HR'.out.bt
            have HBZ := hid HB'.out.size
            go_wp2_with (first | ((with_reducible show wpList _ _ _ (⟨none, Op.store 27 _ _, _, _, _, _⟩ :: _) _ _); go_must (refine wpList_store_new rfl 27 _ _ rfl w.heap.size [.string ⟨#[]⟩, .int .i64 0, .slice none 0 0, .slice none 0 0] (by simp [go_sem]) rfl HTH.out sz27 (by simp [Value.oneCell']) ?_; intro W2 hr2 hf2 hz2; have HR2 := hid hr2; have HF2 := hid hf2; clear hr2 hf2)))
            refine bodyPost_ret (v := .tuple #[.agg #[.string ⟨#[]⟩, .int .i64 0, .slice none 0 0, .slice none 0 0], .iface ty p]) (results_cell_tmp (p := 2) (u := 3) rfl _ _ w.heap.size [.string ⟨#[]⟩, .int .i64 0, .slice none 0 0, .slice none 0 0] _ rfl HR2.out Tryz.underlying27 rfl sz27) rfl ?_
            exact ⟨c00, ⟨none, none, 0, 0⟩, _, rfl, .inr ⟨_, _, rfl⟩, HB'.out.trans (HF2.out.below (Nat.le_refl _) HBZ.out), fun e => (by cases e), HT'.out⟩
        · have HG : Hid (∀ Z, Below (wr.heap.size + 1) (wr.alloc (.cells #[.func (.func (wrt 7)) #[] #[.pointer (some ⟨gk, 0, none⟩)], .func (.func (rdt 7)) #[] #[.pointer (some ⟨gk, 0, none⟩)]] 69)) Z → Calls Tryz.prog 60 #[.string (pc 7), .pointer (some ⟨gk, 0, none⟩)] Z fun e X => ∃ err, e = .returned err ∧ PPk s w.heap.size w w.heap.size C R g q pc 7 err X) := hid fun Z hZ => by
            have hb0 : Below wr.heap.size wr Z := (below_alloc wr _).trans (hZ.mono (Nat.le_succ _))
            exact read_field s hs w.heap.size w w.heap.size C R g q pc HPC.out 7 (by omega) Z val HV.out (HR.out.below hb0) (by omega) (by omega) (HB.out.trans (hb0.mono HB.out.size)) gk (Nat.lt_of_lt_of_le hgl hb0.size) ((hb0.cell (p := ⟨gk, 0, none⟩) hgl).trans HGC.out)
          simp only [wrt, rdt, Nat.reduceMul, Nat.reduceAdd] at c0 c1 HG
          have cq := HR.out.pcs 7 (by omega)
          have zq := HR.out.zq.1
          go_wp2_with fail
          refine rfReg60 _ _ _ _ _ _ _ _ _ _ _ _ _ _ _ _ _ _ _ _ _ _ _ _ _ _ _ _ _ _ _ _ _ _ _ _ _ _ _ _ _ _ _ _ wr.heap.size gk q n cap 7 (pc 7) _ (PPk s w.heap.size w w.heap.size C R g q pc 7) (by simp) (by simp) (by simp; omega) (by omega) hn (by rw [World.cell?_alloc_past _ _ _ zq]; exact cq) (fun Z hZ => HG.out Z (by simpa using hZ)) _ ?_
          rintro t v3 X ⟨he, val2, hR2, hV2, hT2, hB2⟩
          have HR' := hid hR2
          have HV' := hid hV2
          have HT' := hid hT2
          have HB' := hid hB2
          clear hR2 hV2 hT2 hB2 HG
          rcases he with rfl | ⟨ty, p, rfl⟩
          · go_wp2
            go_roundw
            case rel => exact ⟨7 + 1, val2, by omega, by go_num, HR', HV', HB'⟩
            case measure => simp [intOf]
          · have HTH := hid HR'.out.bt
            have HBZ := hid HB'.out.size
            go_wp2_with (first | ((with_reducible show wpList _ _ _ (⟨none, Op.store 27 _ _, _, _, _, _⟩ :: _) _ _); go_must (refine wpList_store_new rfl 27 _ _ rfl w.heap.size [.string ⟨#[]⟩, .int .i64 0, .slice none 0 0, .slice none 0 0] (by simp [go_sem]) rfl HTH.out sz27 (by simp [Value.oneCell']) ?_; intro W2 hr2 hf2 hz2; have HR2 := hid hr2; have HF2 := hid hf2; clear hr2 hf2)))
            refine bodyPost_ret (v := .tuple #[.agg #[.string ⟨#[]⟩, .int .i64 0, .slice none 0 0, .slice none 0 0], .iface ty p]) (results_cell_tmp (p := 2) (u := 3) rfl _ _ w.heap.size [.string ⟨#[]⟩, .int .i64 0, .slice none 0 0, .slice none 0 0] _ rfl HR2.out Tryz.underlying27 rfl sz27) rfl ?_
            exact ⟨c00, ⟨none, none, 0, 0⟩, _, rfl, .inr ⟨_, _, rfl⟩, HB'.out.trans (HF2.out.below (Nat.le_refl _) HBZ.out), fun e => (by cases e), HT'.out⟩

      · have hk2 : k = 8 := by omega
        subst hk2
        obtain ⟨cl, e0, z0⟩ := HV.out.str 0 (by omega)
        obtain ⟨nn, e1⟩ := HV.out.num 1 (by omega)
        obtain ⟨op, e2⟩ := HV.out.num 2 (by omega)
        obtain ⟨ki, e3, z3⟩ := HV.out.str 3 (by omega)
        obtain ⟨na, e4, z4⟩ := HV.out.str 4 (by omega)
        obtain ⟨se, e5⟩ := HV.out.num 5 (by omega)
        obtain ⟨ho, e6, z6⟩ := HV.out.str 6 (by omega)
        obtain ⟨te, e7, z7⟩ := HV.out.str 7 (by omega)
        have q0 : wr.cell? ⟨C, 0, none⟩ = some (.string cl) := by rw [← e0]; exact (HR.out.val 0 (by omega)).1
        have q1 : wr.cell? ⟨C, 1, none⟩ = some (.int .i64 nn) := by rw [← e1]; exact (HR.out.val 1 (by omega)).1
        have q2 := HR.out.rest.1
        have q3 := HR.out.rest.2.1
        have qf := HR.out.rest.2.2
        have r0 : wr.cell? ⟨R, 0, none⟩ = some (.int .i64 op) := by rw [← e2]; exact (HR.out.val 2 (by omega)).1
        have r1 : wr.cell? ⟨R, 1, none⟩ = some (.string ki) := by rw [← e3]; exact (HR.out.val 3 (by omega)).1
        have r2 : wr.cell? ⟨R, 2, none⟩ = some (.string na) := by rw [← e4]; exact (HR.out.val 4 (by omega)).1
        have r3 : wr.cell? ⟨R, 3, none⟩ = some (.int .i64 se) := by rw [← e5]; exact (HR.out.val 5 (by omega)).1
        have r5 : wr.cell? ⟨R, 5, none⟩ = some (.string ho) := by rw [← e6]; exact (HR.out.val 6 (by omega)).1
        have r4 : wr.cell? ⟨R, 4, none⟩ = some (.string te) := by rw [← e7]; exact (HR.out.val 7 (by omega)).1
        have HTV : Hid (∀ cl2 nn2 x2, Told s cl2 nn2 x2 → cl2 = cl ∧ nn2 = nn ∧ x2 = ⟨op, ki, na, se, te, ho⟩) := hid fun cl2 nn2 x2 T => by
          have t0 := (HV.out.told cl2 nn2 x2 T 0 (by omega)).symm.trans e0
          have t1 := (HV.out.told cl2 nn2 x2 T 1 (by omega)).symm.trans e1
          have t2 := (HV.out.told cl2 nn2 x2 T 2 (by omega)).symm.trans e2
          have t3 := (HV.out.told cl2 nn2 x2 T 3 (by omega)).symm.trans e3
          have t4 := (HV.out.told cl2 nn2 x2 T 4 (by omega)).symm.trans e4
          have t5 := (HV.out.told cl2 nn2 x2 T 5 (by omega)).symm.trans e5
          have t6 := (HV.out.told cl2 nn2 x2 T 6 (by omega)).symm.trans e6
          have t7 := (HV.out.told cl2 nn2 x2 T 7 (by omega)).symm.trans e7
          simp only [tv, Value.string.injEq, Value.int.injEq, true_and] at t0 t1 t2 t3 t4 t5 t6 t7
          refine ⟨t0, t1, ?_⟩
          obtain ⟨a1, a2, a3, a4, a5, a6⟩ := x2
          simp only at t2 t3 t4 t5 t6 t7
          rw [t2, t3, t4, t5, t6, t7]
        have hzC := HR.out.zC
        have hzR := HR.out.zR
        have hCR := HR.out.CR
        have hzB := HR.out.zB
        clear e0 e1 e2 e3 e4 e5 e6 e7 HV HPC
        have HTH : Hid (∀ o v, ((wr.setCell ⟨C, 3, none⟩ v).alloc o).there w.heap.size 0 4) := hid fun o v => by
          have hs : (wr.setCell ⟨C, 3, none⟩ v).there w.heap.size 0 4 := fun j hj => ⟨by rw [World.cell?_setCell_other _ _ _ _ (by intro e; have : C = w.heap.size := congrArg Addr.block e; exact hzB.2.1 this.symm)]; exact (HR.out.bt j hj).1, by simpa using (HR.out.bt j hj).2⟩
          exact there_below hs (below_alloc _ _) (by rw [World.size_setCell]; exact hzB.1)
        go_wp2_with (first | ((with_reducible show wpList _ _ _ (⟨none, Op.store 27 _ _, _, _, _, _⟩ :: _) _ _); go_must (refine wpList_store_new rfl 27 _ _ rfl w.heap.size [.string cl, .int .i64 nn, .slice none 0 0, .slice (some ⟨wr.heap.size, 0, none⟩) 1 1] (by simp [go_sem]) rfl (HTH.out _ _) sz27 (by simp [Value.oneCell']) ?_; intro W2 hr2 hf2 hz2; have HR2 := hid hr2; have HF2 := hid hf2; clear hr2 hf2)))
        refine bodyPost_ret (v := .tuple #[.agg #[.string cl, .int .i64 nn, .slice none 0 0, .slice (some ⟨wr.heap.size, 0, none⟩) 1 1], .nilIface]) (results_cell_tmp (p := 2) (u := 3) rfl _ _ w.heap.size [.string cl, .int .i64 nn, .slice none 0 0, .slice (some ⟨wr.heap.size, 0, none⟩) 1 1] _ rfl HR2.out Tryz.underlying27 rfl sz27) rfl ?_
        have hB3 : Below w.heap.size w ((wr.setCell ⟨C, 3, none⟩ (.slice (some ⟨wr.heap.size, 0, none⟩) 1 1)).alloc (.cells #[.int .i64 op, .string ki, .string na, .int .i64 se, .string te, .string ho] 40)) := (HB.out.setCell (p := ⟨C, 3, none⟩) hC1 _).alloc (by rw [World.size_setCell]; exact HB.out.size) _
        have hWr := wr_new (wr.setCell ⟨C, 3, none⟩ (.slice (some ⟨wr.heap.size, 0, none⟩) 1 1)) ⟨op, ki, na, se, te, ho⟩
        rw [World.size_setCell] at hWr
        have hFz := free_new (wr.setCell ⟨C, 3, none⟩ (.slice (some ⟨wr.heap.size, 0, none⟩) 1 1)) #[.int .i64 op, .string ki, .string na, .int .i64 se, .string te, .string ho] 40
        simp only [World.size_setCell] at hFz
        exact ⟨cOf cl nn ⟨op, ki, na, se, te, ho⟩, ⟨none, some ⟨wr.heap.size, 0, none⟩, 0, 1⟩, _, rfl, .inl rfl, hB3.trans (HF2.out.below (Nat.le_refl _) hB3.size), fun _ => ⟨cl, nn, ⟨op, ki, na, se, te, ho⟩, wr.heap.size, rfl, rfl, BcIn.past (lo := w.heap.size) (hi := wr.heap.size + 1) (n := wr.heap.size + 1) ⟨fun i hi => absurd hi (Nat.not_lt_zero _), one_in hWr HB.out.size (Nat.lt_succ_self _)⟩ HF2.out hzB.1 (Nat.lt_succ_self _) (by rw [World.size_alloc, World.size_setCell]; exact Nat.le_refl _) HB.out.size, ⟨z0, z3, z4, z7, z6⟩, HTV.out, fun i => (HF2.out.frozen (p := ⟨wr.heap.size, i, none⟩) (by rw [World.size_alloc, World.size_setCell]; exact Nat.lt_succ_self _) (Or.inr hzB.1)).trans (hFz i)⟩, fun _ _ _ _ => rfl⟩
end Go.Proofs.YtcmimbohmninkaaGreatDoor
